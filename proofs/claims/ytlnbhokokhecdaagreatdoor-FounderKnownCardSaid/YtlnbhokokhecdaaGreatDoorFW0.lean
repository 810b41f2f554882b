/- Known calls, part 0: what single calls hand back, at small heaps, by the kernel's own run of the evaluator. No conditions. -/
import Derived.Test.YtlnbhokokhecdaaGreatDoorFX
set_option linter.all false
namespace Go.Proofs.YtlnbhokokhecdaaGreatDoor
open Go.Ai
set_option maxRecDepth 1000000
-- decani/founder.Extra, 829854 steps
noncomputable def fw0 : Ent :=
  ⟨13, [.agg ⟨[iP 4, iP 28, .slice (some ⟨3, 0, none⟩) 3 3, .slice (some ⟨4, 0, none⟩) 2 2, .bool false, .slice (some ⟨5, 0, none⟩) 1 1, .bool true, .slice (some ⟨6, 0, none⟩) 1 1, .slice (some ⟨7, 0, none⟩) 3 3]⟩], 8,
   gC ++ [(3, .cells true 0 [iP 1, iP 2, iP 2, iP 1, iP 1, iP 1, iP 2, iP 2, iP 1]),
    (4, .cells true 0 [iP 1, iP 2, iP 1, iP 1, iP 1, iP 2]),
    (5, .cells true 0 [iP 1, iP 2, iP 2]),
    (6, .cells true 0 [iP 0, iP 3, iP 2]),
    (7, .cells true 0 [iP 0, iN 0, iP 2, iP 10, iP 0, iP 1, iP 2, iP 6, iP 1, iP 1, iP 1, iP 4])],
   [],
   .tuple ⟨[iP 0, iP 0]⟩⟩
theorem fw0_ok : fw0.okS EE.G = true := by kernel_rfl
theorem fw0_run : evT EE fxT 1000000000 (.call fw0.f fw0.args) fw0.heap (keptK fw0) = some (.bool true) := by kernel_rfl
theorem fw0_h : fw0.holds EE := ent_run envOk fxT_holds _ _ fw0_ok fw0_run
-- decani/founder.Extra, 433446 steps
noncomputable def fw1 : Ent :=
  ⟨13, [.agg ⟨[iP 4, iP 28, .slice (some ⟨3, 0, none⟩) 3 3, .slice (some ⟨4, 0, none⟩) 2 2, .bool false, .slice (some ⟨5, 0, none⟩) 1 1, .bool true, .slice none 0 0, .slice (some ⟨6, 0, none⟩) 3 3]⟩], 7,
   gC ++ [(3, .cells true 0 [iP 1, iP 2, iP 2, iP 1, iP 1, iP 1, iP 2, iP 2, iP 1]),
    (4, .cells true 0 [iP 1, iP 2, iP 1, iP 1, iP 1, iP 2]),
    (5, .cells true 0 [iP 1, iP 2, iP 2]),
    (6, .cells true 0 [iP 0, iN 0, iP 2, iP 10, iP 0, iP 1, iP 2, iP 6, iP 1, iP 1, iP 1, iP 4])],
   [],
   .tuple ⟨[iP 0, iP 0]⟩⟩
theorem fw1_ok : fw1.okS EE.G = true := by kernel_rfl
theorem fw1_run : evT EE fxT 1000000000 (.call fw1.f fw1.args) fw1.heap (keptK fw1) = some (.bool true) := by kernel_rfl
theorem fw1_h : fw1.holds EE := ent_run envOk fxT_holds _ _ fw1_ok fw1_run
-- decani/founder.Debt, 341923 steps
noncomputable def fw2 : Ent :=
  ⟨10, [.agg ⟨[iP 4, iP 28, .slice (some ⟨3, 0, none⟩) 3 3, .slice (some ⟨4, 0, none⟩) 2 2, .bool false, .slice (some ⟨5, 0, none⟩) 1 1, .bool true, .slice (some ⟨6, 0, none⟩) 1 1, .slice (some ⟨7, 0, none⟩) 3 3]⟩], 8,
   gC ++ [(3, .cells true 0 [iP 1, iP 2, iP 2, iP 1, iP 1, iP 1, iP 2, iP 2, iP 1]),
    (4, .cells true 0 [iP 1, iP 2, iP 1, iP 1, iP 1, iP 2]),
    (5, .cells true 0 [iP 1, iP 2, iP 2]),
    (6, .cells true 0 [iP 0, iP 3, iP 2]),
    (7, .cells true 0 [iP 0, iN 0, iP 2, iP 10, iP 0, iP 1, iP 2, iP 6, iP 1, iP 1, iP 1, iP 4])],
   [],
   .tuple ⟨[iP 14, iP 0]⟩⟩
theorem fw2_ok : fw2.okS EE.G = true := by kernel_rfl
theorem fw2_run : evT EE fxT 1000000000 (.call fw2.f fw2.args) fw2.heap (keptK fw2) = some (.bool true) := by kernel_rfl
theorem fw2_h : fw2.holds EE := ent_run envOk fxT_holds _ _ fw2_ok fw2_run
-- decani/founder.Plan, 341380 steps
noncomputable def fw3 : Ent :=
  ⟨9, [.agg ⟨[iP 4, iP 28, .slice (some ⟨3, 0, none⟩) 3 3, .slice (some ⟨4, 0, none⟩) 2 2, .bool false, .slice (some ⟨5, 0, none⟩) 1 1, .bool true, .slice (some ⟨6, 0, none⟩) 1 1, .slice (some ⟨7, 0, none⟩) 3 3]⟩], 8,
   gC ++ [(3, .cells true 0 [iP 1, iP 2, iP 2, iP 1, iP 1, iP 1, iP 2, iP 2, iP 1]),
    (4, .cells true 0 [iP 1, iP 2, iP 1, iP 1, iP 1, iP 2]),
    (5, .cells true 0 [iP 1, iP 2, iP 2]),
    (6, .cells true 0 [iP 0, iP 3, iP 2]),
    (7, .cells true 0 [iP 0, iN 0, iP 2, iP 10, iP 0, iP 1, iP 2, iP 6, iP 1, iP 1, iP 1, iP 4])],
   [.cells true 3 [iP 0, iP 0, iP 1, iP 1, iP 3, iP 1]],
   .tuple ⟨[.slice (some ⟨8, 0, none⟩) 3 18446744073709551616, iP 0]⟩⟩
theorem fw3_ok : fw3.okS EE.G = true := by kernel_rfl
theorem fw3_run : evT EE fxT 1000000000 (.call fw3.f fw3.args) fw3.heap (keptK fw3) = some (.bool true) := by kernel_rfl
theorem fw3_h : fw3.holds EE := ent_run envOk fxT_holds _ _ fw3_ok fw3_run
-- decani/founder.Extra, 271439 steps
noncomputable def fw4 : Ent :=
  ⟨13, [.agg ⟨[iP 4, iP 28, .slice (some ⟨3, 0, none⟩) 3 3, .slice (some ⟨4, 0, none⟩) 2 2, .bool false, .slice (some ⟨5, 0, none⟩) 1 1, .bool true, .slice none 0 0, .slice (some ⟨6, 0, none⟩) 1 1]⟩], 7,
   gC ++ [(3, .cells true 0 [iP 1, iP 2, iP 2, iP 1, iP 1, iP 1, iP 2, iP 2, iP 1]),
    (4, .cells true 0 [iP 1, iP 2, iP 1, iP 1, iP 1, iP 2]),
    (5, .cells true 0 [iP 1, iP 2, iP 2]),
    (6, .cells true 0 [iP 0, iP 3, iP 4, iP 1])],
   [],
   .tuple ⟨[iP 0, iP 4]⟩⟩
theorem fw4_ok : fw4.okS EE.G = true := by kernel_rfl
theorem fw4_run : evT EE fxT 1000000000 (.call fw4.f fw4.args) fw4.heap (keptK fw4) = some (.bool true) := by kernel_rfl
theorem fw4_h : fw4.holds EE := ent_run envOk fxT_holds _ _ fw4_ok fw4_run
-- decani/founder.Debt, 248918 steps
noncomputable def fw5 : Ent :=
  ⟨10, [.agg ⟨[iP 4, iP 28, .slice (some ⟨3, 0, none⟩) 3 3, .slice (some ⟨4, 0, none⟩) 2 2, .bool false, .slice (some ⟨5, 0, none⟩) 1 1, .bool true, .slice none 0 0, .slice (some ⟨6, 0, none⟩) 3 3]⟩], 7,
   gC ++ [(3, .cells true 0 [iP 1, iP 2, iP 2, iP 1, iP 1, iP 1, iP 2, iP 2, iP 1]),
    (4, .cells true 0 [iP 1, iP 2, iP 1, iP 1, iP 1, iP 2]),
    (5, .cells true 0 [iP 1, iP 2, iP 2]),
    (6, .cells true 0 [iP 0, iN 0, iP 2, iP 10, iP 0, iP 1, iP 2, iP 6, iP 1, iP 1, iP 1, iP 4])],
   [],
   .tuple ⟨[iP 20, iP 0]⟩⟩
theorem fw5_ok : fw5.okS EE.G = true := by kernel_rfl
theorem fw5_run : evT EE fxT 1000000000 (.call fw5.f fw5.args) fw5.heap (keptK fw5) = some (.bool true) := by kernel_rfl
theorem fw5_h : fw5.holds EE := ent_run envOk fxT_holds _ _ fw5_ok fw5_run
-- decani/founder.First, 248637 steps
noncomputable def fw6 : Ent :=
  ⟨12, [.agg ⟨[iP 4, iP 28, .slice (some ⟨3, 0, none⟩) 3 3, .slice (some ⟨4, 0, none⟩) 2 2, .bool false, .slice (some ⟨5, 0, none⟩) 1 1, .bool true, .slice none 0 0, .slice (some ⟨6, 0, none⟩) 3 3]⟩], 7,
   gC ++ [(3, .cells true 0 [iP 1, iP 2, iP 2, iP 1, iP 1, iP 1, iP 2, iP 2, iP 1]),
    (4, .cells true 0 [iP 1, iP 2, iP 1, iP 1, iP 1, iP 2]),
    (5, .cells true 0 [iP 1, iP 2, iP 2]),
    (6, .cells true 0 [iP 0, iN 0, iP 2, iP 10, iP 0, iP 1, iP 2, iP 6, iP 1, iP 1, iP 1, iP 4])],
   [],
   .tuple ⟨[iP 0, iP 0]⟩⟩
theorem fw6_ok : fw6.okS EE.G = true := by kernel_rfl
theorem fw6_run : evT EE fxT 1000000000 (.call fw6.f fw6.args) fw6.heap (keptK fw6) = some (.bool true) := by kernel_rfl
theorem fw6_h : fw6.holds EE := ent_run envOk fxT_holds _ _ fw6_ok fw6_run
-- decani/founder.Plan, 248405 steps
noncomputable def fw7 : Ent :=
  ⟨9, [.agg ⟨[iP 4, iP 28, .slice (some ⟨3, 0, none⟩) 3 3, .slice (some ⟨4, 0, none⟩) 2 2, .bool false, .slice (some ⟨5, 0, none⟩) 1 1, .bool true, .slice none 0 0, .slice (some ⟨6, 0, none⟩) 3 3]⟩], 7,
   gC ++ [(3, .cells true 0 [iP 1, iP 2, iP 2, iP 1, iP 1, iP 1, iP 2, iP 2, iP 1]),
    (4, .cells true 0 [iP 1, iP 2, iP 1, iP 1, iP 1, iP 2]),
    (5, .cells true 0 [iP 1, iP 2, iP 2]),
    (6, .cells true 0 [iP 0, iN 0, iP 2, iP 10, iP 0, iP 1, iP 2, iP 6, iP 1, iP 1, iP 1, iP 4])],
   [.cells true 3 [iP 0, iP 0, iP 3, iP 1]],
   .tuple ⟨[.slice (some ⟨7, 0, none⟩) 2 18446744073709551616, iP 0]⟩⟩
theorem fw7_ok : fw7.okS EE.G = true := by kernel_rfl
theorem fw7_run : evT EE fxT 1000000000 (.call fw7.f fw7.args) fw7.heap (keptK fw7) = some (.bool true) := by kernel_rfl
theorem fw7_h : fw7.holds EE := ent_run envOk fxT_holds _ _ fw7_ok fw7_run
-- decani/founder.Open, 245249 steps
noncomputable def fw8 : Ent :=
  ⟨5, [.agg ⟨[iP 4, iP 28, .slice (some ⟨3, 0, none⟩) 3 3, .slice (some ⟨4, 0, none⟩) 2 2, .bool false, .slice (some ⟨5, 0, none⟩) 1 1, .bool true, .slice (some ⟨6, 0, none⟩) 1 1, .slice (some ⟨7, 0, none⟩) 3 3]⟩, iP 1], 8,
   gC ++ [(3, .cells true 0 [iP 1, iP 2, iP 2, iP 1, iP 1, iP 1, iP 2, iP 2, iP 1]),
    (4, .cells true 0 [iP 1, iP 2, iP 1, iP 1, iP 1, iP 2]),
    (5, .cells true 0 [iP 1, iP 2, iP 2]),
    (6, .cells true 0 [iP 0, iP 3, iP 2]),
    (7, .cells true 0 [iP 0, iN 0, iP 2, iP 10, iP 0, iP 1, iP 2, iP 6, iP 1, iP 1, iP 1, iP 4])],
   [.cells true 2 [iP 0, iP 1, iP 3]],
   .tuple ⟨[.slice (some ⟨8, 0, none⟩) 3 18446744073709551616, iP 0]⟩⟩
theorem fw8_ok : fw8.okS EE.G = true := by kernel_rfl
theorem fw8_run : evT EE fxT 1000000000 (.call fw8.f fw8.args) fw8.heap (keptK fw8) = some (.bool true) := by kernel_rfl
theorem fw8_h : fw8.holds EE := ent_run envOk fxT_holds _ _ fw8_ok fw8_run
-- decani/founder.Owed, 213409 steps
noncomputable def fw9 : Ent :=
  ⟨8, [.agg ⟨[iP 4, iP 28, .slice (some ⟨3, 0, none⟩) 3 3, .slice (some ⟨4, 0, none⟩) 2 2, .bool false, .slice (some ⟨5, 0, none⟩) 1 1, .bool true, .slice none 0 0, .slice (some ⟨6, 0, none⟩) 3 3]⟩, .slice (some ⟨7, 0, none⟩) 2 2, iP 2], 8,
   gC ++ [(3, .cells true 0 [iP 1, iP 2, iP 2, iP 1, iP 1, iP 1, iP 2, iP 2, iP 1]),
    (4, .cells true 0 [iP 1, iP 2, iP 1, iP 1, iP 1, iP 2]),
    (5, .cells true 0 [iP 1, iP 2, iP 2]),
    (6, .cells true 0 [iP 0, iN 0, iP 2, iP 10, iP 0, iP 1, iP 2, iP 6, iP 1, iP 1, iP 1, iP 4]),
    (7, .cells true 0 [iP 0, iP 0, iP 3, iP 1])],
   [],
   .tuple ⟨[iP 4, iP 0]⟩⟩
theorem fw9_ok : fw9.okS EE.G = true := by kernel_rfl
theorem fw9_run : evT EE fxT 1000000000 (.call fw9.f fw9.args) fw9.heap (keptK fw9) = some (.bool true) := by kernel_rfl
theorem fw9_h : fw9.holds EE := ent_run envOk fxT_holds _ _ fw9_ok fw9_run
-- decani/founder.Owed, 213409 steps
noncomputable def fw10 : Ent :=
  ⟨8, [.agg ⟨[iP 4, iP 28, .slice (some ⟨3, 0, none⟩) 3 3, .slice (some ⟨4, 0, none⟩) 2 2, .bool false, .slice (some ⟨5, 0, none⟩) 1 1, .bool true, .slice none 0 0, .slice (some ⟨6, 0, none⟩) 3 3]⟩, .slice (some ⟨7, 0, none⟩) 2 2, iP 0], 8,
   gC ++ [(3, .cells true 0 [iP 1, iP 2, iP 2, iP 1, iP 1, iP 1, iP 2, iP 2, iP 1]),
    (4, .cells true 0 [iP 1, iP 2, iP 1, iP 1, iP 1, iP 2]),
    (5, .cells true 0 [iP 1, iP 2, iP 2]),
    (6, .cells true 0 [iP 0, iN 0, iP 2, iP 10, iP 0, iP 1, iP 2, iP 6, iP 1, iP 1, iP 1, iP 4]),
    (7, .cells true 0 [iP 0, iP 0, iP 3, iP 1])],
   [],
   .tuple ⟨[iP 10, iP 0]⟩⟩
theorem fw10_ok : fw10.okS EE.G = true := by kernel_rfl
theorem fw10_run : evT EE fxT 1000000000 (.call fw10.f fw10.args) fw10.heap (keptK fw10) = some (.bool true) := by kernel_rfl
theorem fw10_h : fw10.holds EE := ent_run envOk fxT_holds _ _ fw10_ok fw10_run
-- decani/founder.Owed, 213229 steps
noncomputable def fw11 : Ent :=
  ⟨8, [.agg ⟨[iP 4, iP 28, .slice (some ⟨3, 0, none⟩) 3 3, .slice (some ⟨4, 0, none⟩) 2 2, .bool false, .slice (some ⟨5, 0, none⟩) 1 1, .bool true, .slice none 0 0, .slice (some ⟨6, 0, none⟩) 3 3]⟩, .slice (some ⟨7, 0, none⟩) 2 2, iP 0], 8,
   gC ++ [(3, .cells true 0 [iP 1, iP 2, iP 2, iP 1, iP 1, iP 1, iP 2, iP 2, iP 1]),
    (4, .cells true 0 [iP 1, iP 2, iP 1, iP 1, iP 1, iP 2]),
    (5, .cells true 0 [iP 1, iP 2, iP 2]),
    (6, .cells true 0 [iP 0, iN 0, iP 2, iP 10, iP 0, iP 1, iP 2, iP 6, iP 1, iP 1, iP 1, iP 4]),
    (7, .cells true 0 [iP 0, iP 2, iP 3, iP 2])],
   [],
   .tuple ⟨[iP 0, iP 91]⟩⟩
theorem fw11_ok : fw11.okS EE.G = true := by kernel_rfl
theorem fw11_run : evT EE fxT 1000000000 (.call fw11.f fw11.args) fw11.heap (keptK fw11) = some (.bool true) := by kernel_rfl
theorem fw11_h : fw11.holds EE := ent_run envOk fxT_holds _ _ fw11_ok fw11_run
-- decani/founder.May, 213200 steps
noncomputable def fw12 : Ent :=
  ⟨7, [.agg ⟨[iP 4, iP 28, .slice (some ⟨3, 0, none⟩) 3 3, .slice (some ⟨4, 0, none⟩) 2 2, .bool false, .slice (some ⟨5, 0, none⟩) 1 1, .bool true, .slice none 0 0, .slice (some ⟨6, 0, none⟩) 3 3]⟩, .slice (some ⟨7, 0, none⟩) 2 2], 8,
   gC ++ [(3, .cells true 0 [iP 1, iP 2, iP 2, iP 1, iP 1, iP 1, iP 2, iP 2, iP 1]),
    (4, .cells true 0 [iP 1, iP 2, iP 1, iP 1, iP 1, iP 2]),
    (5, .cells true 0 [iP 1, iP 2, iP 2]),
    (6, .cells true 0 [iP 0, iN 0, iP 2, iP 10, iP 0, iP 1, iP 2, iP 6, iP 1, iP 1, iP 1, iP 4]),
    (7, .cells true 0 [iP 0, iP 0, iP 3, iP 1])],
   [],
   .tuple ⟨[.bool true, iP 0]⟩⟩
theorem fw12_ok : fw12.okS EE.G = true := by kernel_rfl
theorem fw12_run : evT EE fxT 1000000000 (.call fw12.f fw12.args) fw12.heap (keptK fw12) = some (.bool true) := by kernel_rfl
theorem fw12_h : fw12.holds EE := ent_run envOk fxT_holds _ _ fw12_ok fw12_run
-- decani/founder.May, 213185 steps
noncomputable def fw13 : Ent :=
  ⟨7, [.agg ⟨[iP 4, iP 28, .slice (some ⟨3, 0, none⟩) 3 3, .slice (some ⟨4, 0, none⟩) 2 2, .bool false, .slice (some ⟨5, 0, none⟩) 1 1, .bool true, .slice none 0 0, .slice (some ⟨6, 0, none⟩) 3 3]⟩, .slice (some ⟨7, 0, none⟩) 2 2], 8,
   gC ++ [(3, .cells true 0 [iP 1, iP 2, iP 2, iP 1, iP 1, iP 1, iP 2, iP 2, iP 1]),
    (4, .cells true 0 [iP 1, iP 2, iP 1, iP 1, iP 1, iP 2]),
    (5, .cells true 0 [iP 1, iP 2, iP 2]),
    (6, .cells true 0 [iP 0, iN 0, iP 2, iP 10, iP 0, iP 1, iP 2, iP 6, iP 1, iP 1, iP 1, iP 4]),
    (7, .cells true 0 [iP 0, iP 2, iP 3, iP 2])],
   [],
   .tuple ⟨[.bool false, iP 0]⟩⟩
theorem fw13_ok : fw13.okS EE.G = true := by kernel_rfl
theorem fw13_run : evT EE fxT 1000000000 (.call fw13.f fw13.args) fw13.heap (keptK fw13) = some (.bool true) := by kernel_rfl
theorem fw13_h : fw13.holds EE := ent_run envOk fxT_holds _ _ fw13_ok fw13_run
-- decani/founder.Owed, 213141 steps
noncomputable def fw14 : Ent :=
  ⟨8, [.agg ⟨[iP 4, iP 28, .slice (some ⟨3, 0, none⟩) 3 3, .slice (some ⟨4, 0, none⟩) 2 2, .bool false, .slice (some ⟨5, 0, none⟩) 1 1, .bool true, .slice none 0 0, .slice (some ⟨6, 0, none⟩) 3 3]⟩, .slice (some ⟨7, 0, none⟩) 2 2, iP 0], 8,
   gC ++ [(3, .cells true 0 [iP 1, iP 2, iP 2, iP 1, iP 1, iP 1, iP 2, iP 2, iP 1]),
    (4, .cells true 0 [iP 1, iP 2, iP 1, iP 1, iP 1, iP 2]),
    (5, .cells true 0 [iP 1, iP 2, iP 2]),
    (6, .cells true 0 [iP 0, iN 0, iP 2, iP 10, iP 0, iP 1, iP 2, iP 6, iP 1, iP 1, iP 1, iP 4]),
    (7, .cells true 0 [iP 0, iP 0, iP 0, iP 1])],
   [],
   .tuple ⟨[iP 0, iP 91]⟩⟩
theorem fw14_ok : fw14.okS EE.G = true := by kernel_rfl
theorem fw14_run : evT EE fxT 1000000000 (.call fw14.f fw14.args) fw14.heap (keptK fw14) = some (.bool true) := by kernel_rfl
theorem fw14_h : fw14.holds EE := ent_run envOk fxT_holds _ _ fw14_ok fw14_run
-- decani/founder.May, 213097 steps
noncomputable def fw15 : Ent :=
  ⟨7, [.agg ⟨[iP 4, iP 28, .slice (some ⟨3, 0, none⟩) 3 3, .slice (some ⟨4, 0, none⟩) 2 2, .bool false, .slice (some ⟨5, 0, none⟩) 1 1, .bool true, .slice none 0 0, .slice (some ⟨6, 0, none⟩) 3 3]⟩, .slice (some ⟨7, 0, none⟩) 2 2], 8,
   gC ++ [(3, .cells true 0 [iP 1, iP 2, iP 2, iP 1, iP 1, iP 1, iP 2, iP 2, iP 1]),
    (4, .cells true 0 [iP 1, iP 2, iP 1, iP 1, iP 1, iP 2]),
    (5, .cells true 0 [iP 1, iP 2, iP 2]),
    (6, .cells true 0 [iP 0, iN 0, iP 2, iP 10, iP 0, iP 1, iP 2, iP 6, iP 1, iP 1, iP 1, iP 4]),
    (7, .cells true 0 [iP 0, iP 0, iP 0, iP 1])],
   [],
   .tuple ⟨[.bool false, iP 0]⟩⟩
theorem fw15_ok : fw15.okS EE.G = true := by kernel_rfl
theorem fw15_run : evT EE fxT 1000000000 (.call fw15.f fw15.args) fw15.heap (keptK fw15) = some (.bool true) := by kernel_rfl
theorem fw15_h : fw15.holds EE := ent_run envOk fxT_holds _ _ fw15_ok fw15_run
-- decani/founder.Owed, 213008 steps
noncomputable def fw16 : Ent :=
  ⟨8, [.agg ⟨[iP 4, iP 28, .slice (some ⟨3, 0, none⟩) 3 3, .slice (some ⟨4, 0, none⟩) 2 2, .bool false, .slice (some ⟨5, 0, none⟩) 1 1, .bool true, .slice none 0 0, .slice (some ⟨6, 0, none⟩) 3 3]⟩, .slice (some ⟨7, 0, none⟩) 2 2, iP 0], 8,
   gC ++ [(3, .cells true 0 [iP 1, iP 2, iP 2, iP 1, iP 1, iP 1, iP 2, iP 2, iP 1]),
    (4, .cells true 0 [iP 1, iP 2, iP 1, iP 1, iP 1, iP 2]),
    (5, .cells true 0 [iP 1, iP 2, iP 2]),
    (6, .cells true 0 [iP 0, iN 0, iP 2, iP 10, iP 0, iP 1, iP 2, iP 6, iP 1, iP 1, iP 1, iP 4]),
    (7, .cells true 0 [iP 3, iP 1, iP 0, iP 0])],
   [],
   .tuple ⟨[iP 0, iP 91]⟩⟩
theorem fw16_ok : fw16.okS EE.G = true := by kernel_rfl
theorem fw16_run : evT EE fxT 1000000000 (.call fw16.f fw16.args) fw16.heap (keptK fw16) = some (.bool true) := by kernel_rfl
theorem fw16_h : fw16.holds EE := ent_run envOk fxT_holds _ _ fw16_ok fw16_run
-- decani/founder.May, 212964 steps
noncomputable def fw17 : Ent :=
  ⟨7, [.agg ⟨[iP 4, iP 28, .slice (some ⟨3, 0, none⟩) 3 3, .slice (some ⟨4, 0, none⟩) 2 2, .bool false, .slice (some ⟨5, 0, none⟩) 1 1, .bool true, .slice none 0 0, .slice (some ⟨6, 0, none⟩) 3 3]⟩, .slice (some ⟨7, 0, none⟩) 2 2], 8,
   gC ++ [(3, .cells true 0 [iP 1, iP 2, iP 2, iP 1, iP 1, iP 1, iP 2, iP 2, iP 1]),
    (4, .cells true 0 [iP 1, iP 2, iP 1, iP 1, iP 1, iP 2]),
    (5, .cells true 0 [iP 1, iP 2, iP 2]),
    (6, .cells true 0 [iP 0, iN 0, iP 2, iP 10, iP 0, iP 1, iP 2, iP 6, iP 1, iP 1, iP 1, iP 4]),
    (7, .cells true 0 [iP 3, iP 1, iP 0, iP 0])],
   [],
   .tuple ⟨[.bool false, iP 0]⟩⟩
theorem fw17_ok : fw17.okS EE.G = true := by kernel_rfl
theorem fw17_run : evT EE fxT 1000000000 (.call fw17.f fw17.args) fw17.heap (keptK fw17) = some (.bool true) := by kernel_rfl
theorem fw17_h : fw17.holds EE := ent_run envOk fxT_holds _ _ fw17_ok fw17_run
-- decani/founder.Alone, 212418 steps
noncomputable def fw18 : Ent :=
  ⟨11, [.agg ⟨[iP 4, iP 28, .slice (some ⟨3, 0, none⟩) 3 3, .slice (some ⟨4, 0, none⟩) 2 2, .bool false, .slice (some ⟨5, 0, none⟩) 1 1, .bool true, .slice none 0 0, .slice (some ⟨6, 0, none⟩) 3 3]⟩, iP 1], 7,
   gC ++ [(3, .cells true 0 [iP 1, iP 2, iP 2, iP 1, iP 1, iP 1, iP 2, iP 2, iP 1]),
    (4, .cells true 0 [iP 1, iP 2, iP 1, iP 1, iP 1, iP 2]),
    (5, .cells true 0 [iP 1, iP 2, iP 2]),
    (6, .cells true 0 [iP 0, iN 0, iP 2, iP 10, iP 0, iP 1, iP 2, iP 6, iP 1, iP 1, iP 1, iP 4])],
   [],
   .tuple ⟨[iP 2, iP 0]⟩⟩
theorem fw18_ok : fw18.okS EE.G = true := by kernel_rfl
theorem fw18_run : evT EE fxT 1000000000 (.call fw18.f fw18.args) fw18.heap (keptK fw18) = some (.bool true) := by kernel_rfl
theorem fw18_h : fw18.holds EE := ent_run envOk fxT_holds _ _ fw18_ok fw18_run
-- decani/founder.Alone, 212412 steps
noncomputable def fw19 : Ent :=
  ⟨11, [.agg ⟨[iP 4, iP 28, .slice (some ⟨3, 0, none⟩) 3 3, .slice (some ⟨4, 0, none⟩) 2 2, .bool false, .slice (some ⟨5, 0, none⟩) 1 1, .bool true, .slice none 0 0, .slice (some ⟨6, 0, none⟩) 3 3]⟩, iP 0], 7,
   gC ++ [(3, .cells true 0 [iP 1, iP 2, iP 2, iP 1, iP 1, iP 1, iP 2, iP 2, iP 1]),
    (4, .cells true 0 [iP 1, iP 2, iP 1, iP 1, iP 1, iP 2]),
    (5, .cells true 0 [iP 1, iP 2, iP 2]),
    (6, .cells true 0 [iP 0, iN 0, iP 2, iP 10, iP 0, iP 1, iP 2, iP 6, iP 1, iP 1, iP 1, iP 4])],
   [],
   .tuple ⟨[iP 1, iP 0]⟩⟩
theorem fw19_ok : fw19.okS EE.G = true := by kernel_rfl
theorem fw19_run : evT EE fxT 1000000000 (.call fw19.f fw19.args) fw19.heap (keptK fw19) = some (.bool true) := by kernel_rfl
theorem fw19_h : fw19.holds EE := ent_run envOk fxT_holds _ _ fw19_ok fw19_run
-- decani/founder.Open, 212395 steps
noncomputable def fw20 : Ent :=
  ⟨5, [.agg ⟨[iP 4, iP 28, .slice (some ⟨3, 0, none⟩) 3 3, .slice (some ⟨4, 0, none⟩) 2 2, .bool false, .slice (some ⟨5, 0, none⟩) 1 1, .bool true, .slice none 0 0, .slice (some ⟨6, 0, none⟩) 3 3]⟩, iP 2], 7,
   gC ++ [(3, .cells true 0 [iP 1, iP 2, iP 2, iP 1, iP 1, iP 1, iP 2, iP 2, iP 1]),
    (4, .cells true 0 [iP 1, iP 2, iP 1, iP 1, iP 1, iP 2]),
    (5, .cells true 0 [iP 1, iP 2, iP 2]),
    (6, .cells true 0 [iP 0, iN 0, iP 2, iP 10, iP 0, iP 1, iP 2, iP 6, iP 1, iP 1, iP 1, iP 4])],
   [.cells true 2 [iP 0, iP 3]],
   .tuple ⟨[.slice (some ⟨7, 0, none⟩) 2 18446744073709551616, iP 0]⟩⟩
theorem fw20_ok : fw20.okS EE.G = true := by kernel_rfl
theorem fw20_run : evT EE fxT 1000000000 (.call fw20.f fw20.args) fw20.heap (keptK fw20) = some (.bool true) := by kernel_rfl
theorem fw20_h : fw20.holds EE := ent_run envOk fxT_holds _ _ fw20_ok fw20_run
-- decani/founder.Owed, 212393 steps
noncomputable def fw21 : Ent :=
  ⟨8, [.agg ⟨[iP 4, iP 28, .slice (some ⟨3, 0, none⟩) 3 3, .slice (some ⟨4, 0, none⟩) 2 2, .bool false, .slice (some ⟨5, 0, none⟩) 1 1, .bool true, .slice none 0 0, .slice (some ⟨6, 0, none⟩) 3 3]⟩, .slice none 0 0, iP 1], 7,
   gC ++ [(3, .cells true 0 [iP 1, iP 2, iP 2, iP 1, iP 1, iP 1, iP 2, iP 2, iP 1]),
    (4, .cells true 0 [iP 1, iP 2, iP 1, iP 1, iP 1, iP 2]),
    (5, .cells true 0 [iP 1, iP 2, iP 2]),
    (6, .cells true 0 [iP 0, iN 0, iP 2, iP 10, iP 0, iP 1, iP 2, iP 6, iP 1, iP 1, iP 1, iP 4])],
   [],
   .tuple ⟨[iP 12, iP 0]⟩⟩
theorem fw21_ok : fw21.okS EE.G = true := by kernel_rfl
theorem fw21_run : evT EE fxT 1000000000 (.call fw21.f fw21.args) fw21.heap (keptK fw21) = some (.bool true) := by kernel_rfl
theorem fw21_h : fw21.holds EE := ent_run envOk fxT_holds _ _ fw21_ok fw21_run
-- decani/founder.Open, 212389 steps
noncomputable def fw22 : Ent :=
  ⟨5, [.agg ⟨[iP 4, iP 28, .slice (some ⟨3, 0, none⟩) 3 3, .slice (some ⟨4, 0, none⟩) 2 2, .bool false, .slice (some ⟨5, 0, none⟩) 1 1, .bool true, .slice none 0 0, .slice (some ⟨6, 0, none⟩) 3 3]⟩, iP 0], 7,
   gC ++ [(3, .cells true 0 [iP 1, iP 2, iP 2, iP 1, iP 1, iP 1, iP 2, iP 2, iP 1]),
    (4, .cells true 0 [iP 1, iP 2, iP 1, iP 1, iP 1, iP 2]),
    (5, .cells true 0 [iP 1, iP 2, iP 2]),
    (6, .cells true 0 [iP 0, iN 0, iP 2, iP 10, iP 0, iP 1, iP 2, iP 6, iP 1, iP 1, iP 1, iP 4])],
   [.cells true 2 [iP 0]],
   .tuple ⟨[.slice (some ⟨7, 0, none⟩) 1 18446744073709551616, iP 0]⟩⟩
theorem fw22_ok : fw22.okS EE.G = true := by kernel_rfl
theorem fw22_run : evT EE fxT 1000000000 (.call fw22.f fw22.args) fw22.heap (keptK fw22) = some (.bool true) := by kernel_rfl
theorem fw22_h : fw22.holds EE := ent_run envOk fxT_holds _ _ fw22_ok fw22_run
-- decani/founder.Whose, 212371 steps
noncomputable def fw23 : Ent :=
  ⟨6, [.agg ⟨[iP 4, iP 28, .slice (some ⟨3, 0, none⟩) 3 3, .slice (some ⟨4, 0, none⟩) 2 2, .bool false, .slice (some ⟨5, 0, none⟩) 1 1, .bool true, .slice none 0 0, .slice (some ⟨6, 0, none⟩) 3 3]⟩, iP 0], 7,
   gC ++ [(3, .cells true 0 [iP 1, iP 2, iP 2, iP 1, iP 1, iP 1, iP 2, iP 2, iP 1]),
    (4, .cells true 0 [iP 1, iP 2, iP 1, iP 1, iP 1, iP 2]),
    (5, .cells true 0 [iP 1, iP 2, iP 2]),
    (6, .cells true 0 [iP 0, iN 0, iP 2, iP 10, iP 0, iP 1, iP 2, iP 6, iP 1, iP 1, iP 1, iP 4])],
   [.cells true 2 [iP 0, iP 1, iP 2]],
   .tuple ⟨[.slice (some ⟨7, 0, none⟩) 3 18446744073709551616, iP 0]⟩⟩
theorem fw23_ok : fw23.okS EE.G = true := by kernel_rfl
theorem fw23_run : evT EE fxT 1000000000 (.call fw23.f fw23.args) fw23.heap (keptK fw23) = some (.bool true) := by kernel_rfl
theorem fw23_h : fw23.holds EE := ent_run envOk fxT_holds _ _ fw23_ok fw23_run
-- decani/founder.Whose, 212365 steps
noncomputable def fw24 : Ent :=
  ⟨6, [.agg ⟨[iP 4, iP 28, .slice (some ⟨3, 0, none⟩) 3 3, .slice (some ⟨4, 0, none⟩) 2 2, .bool false, .slice (some ⟨5, 0, none⟩) 1 1, .bool true, .slice none 0 0, .slice (some ⟨6, 0, none⟩) 3 3]⟩, iP 3], 7,
   gC ++ [(3, .cells true 0 [iP 1, iP 2, iP 2, iP 1, iP 1, iP 1, iP 2, iP 2, iP 1]),
    (4, .cells true 0 [iP 1, iP 2, iP 1, iP 1, iP 1, iP 2]),
    (5, .cells true 0 [iP 1, iP 2, iP 2]),
    (6, .cells true 0 [iP 0, iN 0, iP 2, iP 10, iP 0, iP 1, iP 2, iP 6, iP 1, iP 1, iP 1, iP 4])],
   [.cells true 2 [iP 1, iP 2]],
   .tuple ⟨[.slice (some ⟨7, 0, none⟩) 2 18446744073709551616, iP 0]⟩⟩
theorem fw24_ok : fw24.okS EE.G = true := by kernel_rfl
theorem fw24_run : evT EE fxT 1000000000 (.call fw24.f fw24.args) fw24.heap (keptK fw24) = some (.bool true) := by kernel_rfl
theorem fw24_h : fw24.holds EE := ent_run envOk fxT_holds _ _ fw24_ok fw24_run
-- decani/founder.Whose, 212353 steps
noncomputable def fw25 : Ent :=
  ⟨6, [.agg ⟨[iP 4, iP 28, .slice (some ⟨3, 0, none⟩) 3 3, .slice (some ⟨4, 0, none⟩) 2 2, .bool false, .slice (some ⟨5, 0, none⟩) 1 1, .bool true, .slice none 0 0, .slice (some ⟨6, 0, none⟩) 3 3]⟩, iP 1], 7,
   gC ++ [(3, .cells true 0 [iP 1, iP 2, iP 2, iP 1, iP 1, iP 1, iP 2, iP 2, iP 1]),
    (4, .cells true 0 [iP 1, iP 2, iP 1, iP 1, iP 1, iP 2]),
    (5, .cells true 0 [iP 1, iP 2, iP 2]),
    (6, .cells true 0 [iP 0, iN 0, iP 2, iP 10, iP 0, iP 1, iP 2, iP 6, iP 1, iP 1, iP 1, iP 4])],
   [],
   .tuple ⟨[.slice none 0 0, iP 0]⟩⟩
theorem fw25_ok : fw25.okS EE.G = true := by kernel_rfl
theorem fw25_run : evT EE fxT 1000000000 (.call fw25.f fw25.args) fw25.heap (keptK fw25) = some (.bool true) := by kernel_rfl
theorem fw25_h : fw25.holds EE := ent_run envOk fxT_holds _ _ fw25_ok fw25_run
-- decani/founder.Owed, 212350 steps
noncomputable def fw26 : Ent :=
  ⟨8, [.agg ⟨[iP 4, iP 28, .slice (some ⟨3, 0, none⟩) 3 3, .slice (some ⟨4, 0, none⟩) 2 2, .bool false, .slice (some ⟨5, 0, none⟩) 1 1, .bool true, .slice none 0 0, .slice (some ⟨6, 0, none⟩) 3 3]⟩, .slice (some ⟨7, 0, none⟩) 1 1, iP 0], 8,
   gC ++ [(3, .cells true 0 [iP 1, iP 2, iP 2, iP 1, iP 1, iP 1, iP 2, iP 2, iP 1]),
    (4, .cells true 0 [iP 1, iP 2, iP 1, iP 1, iP 1, iP 2]),
    (5, .cells true 0 [iP 1, iP 2, iP 2]),
    (6, .cells true 0 [iP 0, iN 0, iP 2, iP 10, iP 0, iP 1, iP 2, iP 6, iP 1, iP 1, iP 1, iP 4]),
    (7, .cells true 0 [iP 3, iP 0])],
   [],
   .tuple ⟨[iP 0, iP 91]⟩⟩
theorem fw26_ok : fw26.okS EE.G = true := by kernel_rfl
theorem fw26_run : evT EE fxT 1000000000 (.call fw26.f fw26.args) fw26.heap (keptK fw26) = some (.bool true) := by kernel_rfl
theorem fw26_h : fw26.holds EE := ent_run envOk fxT_holds _ _ fw26_ok fw26_run
-- decani/founder.Owed, 212350 steps
noncomputable def fw27 : Ent :=
  ⟨8, [.agg ⟨[iP 4, iP 28, .slice (some ⟨3, 0, none⟩) 3 3, .slice (some ⟨4, 0, none⟩) 2 2, .bool false, .slice (some ⟨5, 0, none⟩) 1 1, .bool true, .slice none 0 0, .slice (some ⟨6, 0, none⟩) 3 3]⟩, .slice (some ⟨7, 0, none⟩) 1 1, iP 0], 8,
   gC ++ [(3, .cells true 0 [iP 1, iP 2, iP 2, iP 1, iP 1, iP 1, iP 2, iP 2, iP 1]),
    (4, .cells true 0 [iP 1, iP 2, iP 1, iP 1, iP 1, iP 2]),
    (5, .cells true 0 [iP 1, iP 2, iP 2]),
    (6, .cells true 0 [iP 0, iN 0, iP 2, iP 10, iP 0, iP 1, iP 2, iP 6, iP 1, iP 1, iP 1, iP 4]),
    (7, .cells true 0 [iP 0, iP 3])],
   [],
   .tuple ⟨[iP 0, iP 91]⟩⟩
theorem fw27_ok : fw27.okS EE.G = true := by kernel_rfl
theorem fw27_run : evT EE fxT 1000000000 (.call fw27.f fw27.args) fw27.heap (keptK fw27) = some (.bool true) := by kernel_rfl
theorem fw27_h : fw27.holds EE := ent_run envOk fxT_holds _ _ fw27_ok fw27_run
-- decani/founder.Owed, 212350 steps
noncomputable def fw28 : Ent :=
  ⟨8, [.agg ⟨[iP 4, iP 28, .slice (some ⟨3, 0, none⟩) 3 3, .slice (some ⟨4, 0, none⟩) 2 2, .bool false, .slice (some ⟨5, 0, none⟩) 1 1, .bool true, .slice none 0 0, .slice (some ⟨6, 0, none⟩) 3 3]⟩, .slice (some ⟨7, 0, none⟩) 1 1, iP 0], 8,
   gC ++ [(3, .cells true 0 [iP 1, iP 2, iP 2, iP 1, iP 1, iP 1, iP 2, iP 2, iP 1]),
    (4, .cells true 0 [iP 1, iP 2, iP 1, iP 1, iP 1, iP 2]),
    (5, .cells true 0 [iP 1, iP 2, iP 2]),
    (6, .cells true 0 [iP 0, iN 0, iP 2, iP 10, iP 0, iP 1, iP 2, iP 6, iP 1, iP 1, iP 1, iP 4]),
    (7, .cells true 0 [iP 0, iN 0])],
   [],
   .tuple ⟨[iP 0, iP 91]⟩⟩
theorem fw28_ok : fw28.okS EE.G = true := by kernel_rfl
theorem fw28_run : evT EE fxT 1000000000 (.call fw28.f fw28.args) fw28.heap (keptK fw28) = some (.bool true) := by kernel_rfl
theorem fw28_h : fw28.holds EE := ent_run envOk fxT_holds _ _ fw28_ok fw28_run
-- decani/founder.Owed, 212350 steps
noncomputable def fw29 : Ent :=
  ⟨8, [.agg ⟨[iP 4, iP 28, .slice (some ⟨3, 0, none⟩) 3 3, .slice (some ⟨4, 0, none⟩) 2 2, .bool false, .slice (some ⟨5, 0, none⟩) 1 1, .bool true, .slice none 0 0, .slice (some ⟨6, 0, none⟩) 3 3]⟩, .slice (some ⟨7, 0, none⟩) 1 1, iP 0], 8,
   gC ++ [(3, .cells true 0 [iP 1, iP 2, iP 2, iP 1, iP 1, iP 1, iP 2, iP 2, iP 1]),
    (4, .cells true 0 [iP 1, iP 2, iP 1, iP 1, iP 1, iP 2]),
    (5, .cells true 0 [iP 1, iP 2, iP 2]),
    (6, .cells true 0 [iP 0, iN 0, iP 2, iP 10, iP 0, iP 1, iP 2, iP 6, iP 1, iP 1, iP 1, iP 4]),
    (7, .cells true 0 [iP 4, iP 1])],
   [],
   .tuple ⟨[iP 0, iP 91]⟩⟩
theorem fw29_ok : fw29.okS EE.G = true := by kernel_rfl
theorem fw29_run : evT EE fxT 1000000000 (.call fw29.f fw29.args) fw29.heap (keptK fw29) = some (.bool true) := by kernel_rfl
theorem fw29_h : fw29.holds EE := ent_run envOk fxT_holds _ _ fw29_ok fw29_run
-- decani/founder.Owed, 212350 steps
noncomputable def fw30 : Ent :=
  ⟨8, [.agg ⟨[iP 4, iP 28, .slice (some ⟨3, 0, none⟩) 3 3, .slice (some ⟨4, 0, none⟩) 2 2, .bool false, .slice (some ⟨5, 0, none⟩) 1 1, .bool true, .slice none 0 0, .slice (some ⟨6, 0, none⟩) 3 3]⟩, .slice (some ⟨7, 0, none⟩) 1 1, iP 0], 8,
   gC ++ [(3, .cells true 0 [iP 1, iP 2, iP 2, iP 1, iP 1, iP 1, iP 2, iP 2, iP 1]),
    (4, .cells true 0 [iP 1, iP 2, iP 1, iP 1, iP 1, iP 2]),
    (5, .cells true 0 [iP 1, iP 2, iP 2]),
    (6, .cells true 0 [iP 0, iN 0, iP 2, iP 10, iP 0, iP 1, iP 2, iP 6, iP 1, iP 1, iP 1, iP 4]),
    (7, .cells true 0 [iN 0, iP 1])],
   [],
   .tuple ⟨[iP 0, iP 91]⟩⟩
theorem fw30_ok : fw30.okS EE.G = true := by kernel_rfl
theorem fw30_run : evT EE fxT 1000000000 (.call fw30.f fw30.args) fw30.heap (keptK fw30) = some (.bool true) := by kernel_rfl
theorem fw30_h : fw30.holds EE := ent_run envOk fxT_holds _ _ fw30_ok fw30_run
-- decani/founder.May, 212306 steps
noncomputable def fw31 : Ent :=
  ⟨7, [.agg ⟨[iP 4, iP 28, .slice (some ⟨3, 0, none⟩) 3 3, .slice (some ⟨4, 0, none⟩) 2 2, .bool false, .slice (some ⟨5, 0, none⟩) 1 1, .bool true, .slice none 0 0, .slice (some ⟨6, 0, none⟩) 3 3]⟩, .slice (some ⟨7, 0, none⟩) 1 1], 8,
   gC ++ [(3, .cells true 0 [iP 1, iP 2, iP 2, iP 1, iP 1, iP 1, iP 2, iP 2, iP 1]),
    (4, .cells true 0 [iP 1, iP 2, iP 1, iP 1, iP 1, iP 2]),
    (5, .cells true 0 [iP 1, iP 2, iP 2]),
    (6, .cells true 0 [iP 0, iN 0, iP 2, iP 10, iP 0, iP 1, iP 2, iP 6, iP 1, iP 1, iP 1, iP 4]),
    (7, .cells true 0 [iP 3, iP 0])],
   [],
   .tuple ⟨[.bool false, iP 0]⟩⟩
theorem fw31_ok : fw31.okS EE.G = true := by kernel_rfl
theorem fw31_run : evT EE fxT 1000000000 (.call fw31.f fw31.args) fw31.heap (keptK fw31) = some (.bool true) := by kernel_rfl
theorem fw31_h : fw31.holds EE := ent_run envOk fxT_holds _ _ fw31_ok fw31_run
-- decani/founder.May, 212306 steps
noncomputable def fw32 : Ent :=
  ⟨7, [.agg ⟨[iP 4, iP 28, .slice (some ⟨3, 0, none⟩) 3 3, .slice (some ⟨4, 0, none⟩) 2 2, .bool false, .slice (some ⟨5, 0, none⟩) 1 1, .bool true, .slice none 0 0, .slice (some ⟨6, 0, none⟩) 3 3]⟩, .slice (some ⟨7, 0, none⟩) 1 1], 8,
   gC ++ [(3, .cells true 0 [iP 1, iP 2, iP 2, iP 1, iP 1, iP 1, iP 2, iP 2, iP 1]),
    (4, .cells true 0 [iP 1, iP 2, iP 1, iP 1, iP 1, iP 2]),
    (5, .cells true 0 [iP 1, iP 2, iP 2]),
    (6, .cells true 0 [iP 0, iN 0, iP 2, iP 10, iP 0, iP 1, iP 2, iP 6, iP 1, iP 1, iP 1, iP 4]),
    (7, .cells true 0 [iP 0, iP 3])],
   [],
   .tuple ⟨[.bool false, iP 0]⟩⟩
theorem fw32_ok : fw32.okS EE.G = true := by kernel_rfl
theorem fw32_run : evT EE fxT 1000000000 (.call fw32.f fw32.args) fw32.heap (keptK fw32) = some (.bool true) := by kernel_rfl
theorem fw32_h : fw32.holds EE := ent_run envOk fxT_holds _ _ fw32_ok fw32_run
-- decani/founder.May, 212306 steps
noncomputable def fw33 : Ent :=
  ⟨7, [.agg ⟨[iP 4, iP 28, .slice (some ⟨3, 0, none⟩) 3 3, .slice (some ⟨4, 0, none⟩) 2 2, .bool false, .slice (some ⟨5, 0, none⟩) 1 1, .bool true, .slice none 0 0, .slice (some ⟨6, 0, none⟩) 3 3]⟩, .slice (some ⟨7, 0, none⟩) 1 1], 8,
   gC ++ [(3, .cells true 0 [iP 1, iP 2, iP 2, iP 1, iP 1, iP 1, iP 2, iP 2, iP 1]),
    (4, .cells true 0 [iP 1, iP 2, iP 1, iP 1, iP 1, iP 2]),
    (5, .cells true 0 [iP 1, iP 2, iP 2]),
    (6, .cells true 0 [iP 0, iN 0, iP 2, iP 10, iP 0, iP 1, iP 2, iP 6, iP 1, iP 1, iP 1, iP 4]),
    (7, .cells true 0 [iP 0, iN 0])],
   [],
   .tuple ⟨[.bool false, iP 0]⟩⟩
theorem fw33_ok : fw33.okS EE.G = true := by kernel_rfl
theorem fw33_run : evT EE fxT 1000000000 (.call fw33.f fw33.args) fw33.heap (keptK fw33) = some (.bool true) := by kernel_rfl
theorem fw33_h : fw33.holds EE := ent_run envOk fxT_holds _ _ fw33_ok fw33_run
-- decani/founder.May, 212306 steps
noncomputable def fw34 : Ent :=
  ⟨7, [.agg ⟨[iP 4, iP 28, .slice (some ⟨3, 0, none⟩) 3 3, .slice (some ⟨4, 0, none⟩) 2 2, .bool false, .slice (some ⟨5, 0, none⟩) 1 1, .bool true, .slice none 0 0, .slice (some ⟨6, 0, none⟩) 3 3]⟩, .slice (some ⟨7, 0, none⟩) 1 1], 8,
   gC ++ [(3, .cells true 0 [iP 1, iP 2, iP 2, iP 1, iP 1, iP 1, iP 2, iP 2, iP 1]),
    (4, .cells true 0 [iP 1, iP 2, iP 1, iP 1, iP 1, iP 2]),
    (5, .cells true 0 [iP 1, iP 2, iP 2]),
    (6, .cells true 0 [iP 0, iN 0, iP 2, iP 10, iP 0, iP 1, iP 2, iP 6, iP 1, iP 1, iP 1, iP 4]),
    (7, .cells true 0 [iP 4, iP 1])],
   [],
   .tuple ⟨[.bool false, iP 0]⟩⟩
theorem fw34_ok : fw34.okS EE.G = true := by kernel_rfl
theorem fw34_run : evT EE fxT 1000000000 (.call fw34.f fw34.args) fw34.heap (keptK fw34) = some (.bool true) := by kernel_rfl
theorem fw34_h : fw34.holds EE := ent_run envOk fxT_holds _ _ fw34_ok fw34_run
-- decani/founder.May, 212306 steps
noncomputable def fw35 : Ent :=
  ⟨7, [.agg ⟨[iP 4, iP 28, .slice (some ⟨3, 0, none⟩) 3 3, .slice (some ⟨4, 0, none⟩) 2 2, .bool false, .slice (some ⟨5, 0, none⟩) 1 1, .bool true, .slice none 0 0, .slice (some ⟨6, 0, none⟩) 3 3]⟩, .slice (some ⟨7, 0, none⟩) 1 1], 8,
   gC ++ [(3, .cells true 0 [iP 1, iP 2, iP 2, iP 1, iP 1, iP 1, iP 2, iP 2, iP 1]),
    (4, .cells true 0 [iP 1, iP 2, iP 1, iP 1, iP 1, iP 2]),
    (5, .cells true 0 [iP 1, iP 2, iP 2]),
    (6, .cells true 0 [iP 0, iN 0, iP 2, iP 10, iP 0, iP 1, iP 2, iP 6, iP 1, iP 1, iP 1, iP 4]),
    (7, .cells true 0 [iN 0, iP 1])],
   [],
   .tuple ⟨[.bool false, iP 0]⟩⟩
theorem fw35_ok : fw35.okS EE.G = true := by kernel_rfl
theorem fw35_run : evT EE fxT 1000000000 (.call fw35.f fw35.args) fw35.heap (keptK fw35) = some (.bool true) := by kernel_rfl
theorem fw35_h : fw35.holds EE := ent_run envOk fxT_holds _ _ fw35_ok fw35_run
-- decani/founder.First, 114985 steps
noncomputable def fw36 : Ent :=
  ⟨12, [.agg ⟨[iP 4, iP 28, .slice (some ⟨3, 0, none⟩) 3 3, .slice (some ⟨4, 0, none⟩) 2 2, .bool false, .slice (some ⟨5, 0, none⟩) 1 1, .bool true, .slice none 0 0, .slice (some ⟨6, 0, none⟩) 1 1]⟩], 7,
   gC ++ [(3, .cells true 0 [iP 1, iP 2, iP 2, iP 1, iP 1, iP 1, iP 2, iP 2, iP 1]),
    (4, .cells true 0 [iP 1, iP 2, iP 1, iP 1, iP 1, iP 2]),
    (5, .cells true 0 [iP 1, iP 2, iP 2]),
    (6, .cells true 0 [iP 0, iP 3, iP 4, iP 1])],
   [],
   .tuple ⟨[iP 0, iP 4]⟩⟩
theorem fw36_ok : fw36.okS EE.G = true := by kernel_rfl
theorem fw36_run : evT EE fxT 1000000000 (.call fw36.f fw36.args) fw36.heap (keptK fw36) = some (.bool true) := by kernel_rfl
theorem fw36_h : fw36.holds EE := ent_run envOk fxT_holds _ _ fw36_ok fw36_run
-- decani/founder.Open, 7501 steps
noncomputable def fw37 : Ent :=
  ⟨5, [.agg ⟨[iP 4, iP 28, .slice (some ⟨3, 0, none⟩) 3 3, .slice (some ⟨4, 0, none⟩) 2 2, .bool false, .slice (some ⟨5, 0, none⟩) 1 1, .bool true, .slice (some ⟨6, 0, none⟩) 2 2, .slice (some ⟨7, 0, none⟩) 3 3]⟩, iP 0], 8,
   gC ++ [(3, .cells true 0 [iP 1, iP 2, iP 2, iP 1, iP 1, iP 1, iP 2, iP 2, iP 1]),
    (4, .cells true 0 [iP 1, iP 2, iP 1, iP 1, iP 1, iP 2]),
    (5, .cells true 0 [iP 1, iP 2, iP 2]),
    (6, .cells true 0 [iP 0, iP 3, iP 2, iP 1, iP 1, iP 0]),
    (7, .cells true 0 [iP 0, iN 0, iP 2, iP 10, iP 0, iP 1, iP 2, iP 6, iP 1, iP 1, iP 1, iP 4])],
   [],
   .tuple ⟨[.slice none 0 0, iP 92]⟩⟩
theorem fw37_ok : fw37.okS EE.G = true := by kernel_rfl
theorem fw37_run : evT EE fxT 1000000000 (.call fw37.f fw37.args) fw37.heap (keptK fw37) = some (.bool true) := by kernel_rfl
theorem fw37_h : fw37.holds EE := ent_run envOk fxT_holds _ _ fw37_ok fw37_run
-- decani/founder.Owed, 7501 steps
noncomputable def fw38 : Ent :=
  ⟨8, [.agg ⟨[iP 4, iP 28, .slice (some ⟨3, 0, none⟩) 3 3, .slice (some ⟨4, 0, none⟩) 2 2, .bool false, .slice (some ⟨5, 0, none⟩) 1 1, .bool true, .slice (some ⟨6, 0, none⟩) 2 2, .slice (some ⟨7, 0, none⟩) 3 3]⟩, .slice (some ⟨8, 0, none⟩) 1 1, iP 0], 9,
   gC ++ [(3, .cells true 0 [iP 1, iP 2, iP 2, iP 1, iP 1, iP 1, iP 2, iP 2, iP 1]),
    (4, .cells true 0 [iP 1, iP 2, iP 1, iP 1, iP 1, iP 2]),
    (5, .cells true 0 [iP 1, iP 2, iP 2]),
    (6, .cells true 0 [iP 0, iP 3, iP 2, iP 1, iP 1, iP 0]),
    (7, .cells true 0 [iP 0, iN 0, iP 2, iP 10, iP 0, iP 1, iP 2, iP 6, iP 1, iP 1, iP 1, iP 4]),
    (8, .cells true 0 [iP 3, iP 0])],
   [],
   .tuple ⟨[iP 0, iP 92]⟩⟩
theorem fw38_ok : fw38.okS EE.G = true := by kernel_rfl
theorem fw38_run : evT EE fxT 1000000000 (.call fw38.f fw38.args) fw38.heap (keptK fw38) = some (.bool true) := by kernel_rfl
theorem fw38_h : fw38.holds EE := ent_run envOk fxT_holds _ _ fw38_ok fw38_run
-- decani/founder.Plan, 7463 steps
noncomputable def fw39 : Ent :=
  ⟨9, [.agg ⟨[iP 4, iP 28, .slice (some ⟨3, 0, none⟩) 3 3, .slice (some ⟨4, 0, none⟩) 2 2, .bool false, .slice (some ⟨5, 0, none⟩) 1 1, .bool true, .slice (some ⟨6, 0, none⟩) 2 2, .slice (some ⟨7, 0, none⟩) 3 3]⟩], 8,
   gC ++ [(3, .cells true 0 [iP 1, iP 2, iP 2, iP 1, iP 1, iP 1, iP 2, iP 2, iP 1]),
    (4, .cells true 0 [iP 1, iP 2, iP 1, iP 1, iP 1, iP 2]),
    (5, .cells true 0 [iP 1, iP 2, iP 2]),
    (6, .cells true 0 [iP 0, iP 3, iP 2, iP 1, iP 1, iP 0]),
    (7, .cells true 0 [iP 0, iN 0, iP 2, iP 10, iP 0, iP 1, iP 2, iP 6, iP 1, iP 1, iP 1, iP 4])],
   [],
   .tuple ⟨[.slice none 0 0, iP 92]⟩⟩
theorem fw39_ok : fw39.okS EE.G = true := by kernel_rfl
theorem fw39_run : evT EE fxT 1000000000 (.call fw39.f fw39.args) fw39.heap (keptK fw39) = some (.bool true) := by kernel_rfl
theorem fw39_h : fw39.holds EE := ent_run envOk fxT_holds _ _ fw39_ok fw39_run
-- decani/founder.Extra, 7463 steps
noncomputable def fw40 : Ent :=
  ⟨13, [.agg ⟨[iP 4, iP 28, .slice (some ⟨3, 0, none⟩) 3 3, .slice (some ⟨4, 0, none⟩) 2 2, .bool false, .slice (some ⟨5, 0, none⟩) 1 1, .bool true, .slice (some ⟨6, 0, none⟩) 2 2, .slice (some ⟨7, 0, none⟩) 3 3]⟩], 8,
   gC ++ [(3, .cells true 0 [iP 1, iP 2, iP 2, iP 1, iP 1, iP 1, iP 2, iP 2, iP 1]),
    (4, .cells true 0 [iP 1, iP 2, iP 1, iP 1, iP 1, iP 2]),
    (5, .cells true 0 [iP 1, iP 2, iP 2]),
    (6, .cells true 0 [iP 0, iP 3, iP 2, iP 1, iP 1, iP 0]),
    (7, .cells true 0 [iP 0, iN 0, iP 2, iP 10, iP 0, iP 1, iP 2, iP 6, iP 1, iP 1, iP 1, iP 4])],
   [],
   .tuple ⟨[iP 0, iP 92]⟩⟩
theorem fw40_ok : fw40.okS EE.G = true := by kernel_rfl
theorem fw40_run : evT EE fxT 1000000000 (.call fw40.f fw40.args) fw40.heap (keptK fw40) = some (.bool true) := by kernel_rfl
theorem fw40_h : fw40.holds EE := ent_run envOk fxT_holds _ _ fw40_ok fw40_run
-- decani/founder.Open, 2088 steps
noncomputable def fw41 : Ent :=
  ⟨5, [.agg ⟨[iP 4, iP 28, .slice (some ⟨3, 0, none⟩) 3 3, .slice (some ⟨4, 0, none⟩) 2 2, .bool false, .slice (some ⟨5, 0, none⟩) 1 1, .bool true, .slice (some ⟨6, 0, none⟩) 2 2, .slice (some ⟨7, 0, none⟩) 3 3]⟩, iP 3], 8,
   gC ++ [(3, .cells true 0 [iP 1, iP 2, iP 2, iP 1, iP 1, iP 1, iP 2, iP 2, iP 1]),
    (4, .cells true 0 [iP 1, iP 2, iP 1, iP 1, iP 1, iP 2]),
    (5, .cells true 0 [iP 1, iP 2, iP 2]),
    (6, .cells true 0 [iP 0, iP 3, iP 2, iP 1, iP 1, iP 0]),
    (7, .cells true 0 [iP 0, iN 0, iP 2, iP 10, iP 0, iP 1, iP 2, iP 6, iP 1, iP 1, iP 1, iP 4])],
   [],
   .tuple ⟨[.slice none 0 0, iP 91]⟩⟩
theorem fw41_ok : fw41.okS EE.G = true := by kernel_rfl
theorem fw41_run : evT EE fxT 1000000000 (.call fw41.f fw41.args) fw41.heap (keptK fw41) = some (.bool true) := by kernel_rfl
theorem fw41_h : fw41.holds EE := ent_run envOk fxT_holds _ _ fw41_ok fw41_run
-- decani/founder.Whose, 2088 steps
noncomputable def fw42 : Ent :=
  ⟨6, [.agg ⟨[iP 4, iP 28, .slice (some ⟨3, 0, none⟩) 3 3, .slice (some ⟨4, 0, none⟩) 2 2, .bool false, .slice (some ⟨5, 0, none⟩) 1 1, .bool true, .slice (some ⟨6, 0, none⟩) 2 2, .slice (some ⟨7, 0, none⟩) 3 3]⟩, iP 4], 8,
   gC ++ [(3, .cells true 0 [iP 1, iP 2, iP 2, iP 1, iP 1, iP 1, iP 2, iP 2, iP 1]),
    (4, .cells true 0 [iP 1, iP 2, iP 1, iP 1, iP 1, iP 2]),
    (5, .cells true 0 [iP 1, iP 2, iP 2]),
    (6, .cells true 0 [iP 0, iP 3, iP 2, iP 1, iP 1, iP 0]),
    (7, .cells true 0 [iP 0, iN 0, iP 2, iP 10, iP 0, iP 1, iP 2, iP 6, iP 1, iP 1, iP 1, iP 4])],
   [],
   .tuple ⟨[.slice none 0 0, iP 91]⟩⟩
theorem fw42_ok : fw42.okS EE.G = true := by kernel_rfl
theorem fw42_run : evT EE fxT 1000000000 (.call fw42.f fw42.args) fw42.heap (keptK fw42) = some (.bool true) := by kernel_rfl
theorem fw42_h : fw42.holds EE := ent_run envOk fxT_holds _ _ fw42_ok fw42_run
-- decani/founder.Owed, 2088 steps
noncomputable def fw43 : Ent :=
  ⟨8, [.agg ⟨[iP 4, iP 28, .slice (some ⟨3, 0, none⟩) 3 3, .slice (some ⟨4, 0, none⟩) 2 2, .bool false, .slice (some ⟨5, 0, none⟩) 1 1, .bool true, .slice (some ⟨6, 0, none⟩) 2 2, .slice (some ⟨7, 0, none⟩) 3 3]⟩, .slice (some ⟨8, 0, none⟩) 1 1, iP 3], 9,
   gC ++ [(3, .cells true 0 [iP 1, iP 2, iP 2, iP 1, iP 1, iP 1, iP 2, iP 2, iP 1]),
    (4, .cells true 0 [iP 1, iP 2, iP 1, iP 1, iP 1, iP 2]),
    (5, .cells true 0 [iP 1, iP 2, iP 2]),
    (6, .cells true 0 [iP 0, iP 3, iP 2, iP 1, iP 1, iP 0]),
    (7, .cells true 0 [iP 0, iN 0, iP 2, iP 10, iP 0, iP 1, iP 2, iP 6, iP 1, iP 1, iP 1, iP 4]),
    (8, .cells true 0 [iP 3, iP 0])],
   [],
   .tuple ⟨[iP 0, iP 91]⟩⟩
theorem fw43_ok : fw43.okS EE.G = true := by kernel_rfl
theorem fw43_run : evT EE fxT 1000000000 (.call fw43.f fw43.args) fw43.heap (keptK fw43) = some (.bool true) := by kernel_rfl
theorem fw43_h : fw43.holds EE := ent_run envOk fxT_holds _ _ fw43_ok fw43_run
-- decani/founder.Alone, 2088 steps
noncomputable def fw44 : Ent :=
  ⟨11, [.agg ⟨[iP 4, iP 28, .slice (some ⟨3, 0, none⟩) 3 3, .slice (some ⟨4, 0, none⟩) 2 2, .bool false, .slice (some ⟨5, 0, none⟩) 1 1, .bool true, .slice (some ⟨6, 0, none⟩) 2 2, .slice (some ⟨7, 0, none⟩) 3 3]⟩, iN 0], 8,
   gC ++ [(3, .cells true 0 [iP 1, iP 2, iP 2, iP 1, iP 1, iP 1, iP 2, iP 2, iP 1]),
    (4, .cells true 0 [iP 1, iP 2, iP 1, iP 1, iP 1, iP 2]),
    (5, .cells true 0 [iP 1, iP 2, iP 2]),
    (6, .cells true 0 [iP 0, iP 3, iP 2, iP 1, iP 1, iP 0]),
    (7, .cells true 0 [iP 0, iN 0, iP 2, iP 10, iP 0, iP 1, iP 2, iP 6, iP 1, iP 1, iP 1, iP 4])],
   [],
   .tuple ⟨[iP 0, iP 91]⟩⟩
theorem fw44_ok : fw44.okS EE.G = true := by kernel_rfl
theorem fw44_run : evT EE fxT 1000000000 (.call fw44.f fw44.args) fw44.heap (keptK fw44) = some (.bool true) := by kernel_rfl
theorem fw44_h : fw44.holds EE := ent_run envOk fxT_holds _ _ fw44_ok fw44_run
-- decani/founder.Open, 1728 steps
noncomputable def fw45 : Ent :=
  ⟨5, [.agg ⟨[iP 4, iP 28, .slice (some ⟨3, 0, none⟩) 3 3, .slice (some ⟨4, 0, none⟩) 2 2, .bool false, .slice (some ⟨5, 0, none⟩) 1 1, .bool true, .slice none 0 0, .slice (some ⟨6, 0, none⟩) 3 3]⟩, iN 0], 7,
   gC ++ [(3, .cells true 0 [iP 1, iP 2, iP 2, iP 1, iP 1, iP 1, iP 2, iP 2, iP 1]),
    (4, .cells true 0 [iP 1, iP 2, iP 1, iP 1, iP 1, iP 2]),
    (5, .cells true 0 [iP 1, iP 2, iP 2]),
    (6, .cells true 0 [iP 0, iN 0, iP 2, iP 10, iP 0, iP 1, iP 2, iP 6, iP 1, iP 1, iP 0, iP 4])],
   [],
   .tuple ⟨[.slice none 0 0, iP 90]⟩⟩
theorem fw45_ok : fw45.okS EE.G = true := by kernel_rfl
theorem fw45_run : evT EE fxT 1000000000 (.call fw45.f fw45.args) fw45.heap (keptK fw45) = some (.bool true) := by kernel_rfl
theorem fw45_h : fw45.holds EE := ent_run envOk fxT_holds _ _ fw45_ok fw45_run
-- decani/founder.Whose, 1728 steps
noncomputable def fw46 : Ent :=
  ⟨6, [.agg ⟨[iP 4, iP 28, .slice (some ⟨3, 0, none⟩) 3 3, .slice (some ⟨4, 0, none⟩) 2 2, .bool false, .slice (some ⟨5, 0, none⟩) 1 1, .bool true, .slice none 0 0, .slice (some ⟨6, 0, none⟩) 3 3]⟩, iN 0], 7,
   gC ++ [(3, .cells true 0 [iP 1, iP 2, iP 2, iP 1, iP 1, iP 1, iP 2, iP 2, iP 1]),
    (4, .cells true 0 [iP 1, iP 2, iP 1, iP 1, iP 1, iP 2]),
    (5, .cells true 0 [iP 1, iP 2, iP 2]),
    (6, .cells true 0 [iP 0, iN 0, iP 2, iP 10, iP 0, iP 1, iP 2, iP 6, iP 1, iP 1, iP 0, iP 4])],
   [],
   .tuple ⟨[.slice none 0 0, iP 90]⟩⟩
theorem fw46_ok : fw46.okS EE.G = true := by kernel_rfl
theorem fw46_run : evT EE fxT 1000000000 (.call fw46.f fw46.args) fw46.heap (keptK fw46) = some (.bool true) := by kernel_rfl
theorem fw46_h : fw46.holds EE := ent_run envOk fxT_holds _ _ fw46_ok fw46_run
-- decani/founder.Owed, 1728 steps
noncomputable def fw47 : Ent :=
  ⟨8, [.agg ⟨[iP 4, iP 28, .slice (some ⟨3, 0, none⟩) 3 3, .slice (some ⟨4, 0, none⟩) 2 2, .bool false, .slice (some ⟨5, 0, none⟩) 1 1, .bool true, .slice none 0 0, .slice (some ⟨6, 0, none⟩) 3 3]⟩, .slice none 0 0, iN 0], 7,
   gC ++ [(3, .cells true 0 [iP 1, iP 2, iP 2, iP 1, iP 1, iP 1, iP 2, iP 2, iP 1]),
    (4, .cells true 0 [iP 1, iP 2, iP 1, iP 1, iP 1, iP 2]),
    (5, .cells true 0 [iP 1, iP 2, iP 2]),
    (6, .cells true 0 [iP 0, iN 0, iP 2, iP 10, iP 0, iP 1, iP 2, iP 6, iP 1, iP 1, iP 0, iP 4])],
   [],
   .tuple ⟨[iP 0, iP 90]⟩⟩
theorem fw47_ok : fw47.okS EE.G = true := by kernel_rfl
theorem fw47_run : evT EE fxT 1000000000 (.call fw47.f fw47.args) fw47.heap (keptK fw47) = some (.bool true) := by kernel_rfl
theorem fw47_h : fw47.holds EE := ent_run envOk fxT_holds _ _ fw47_ok fw47_run
-- decani/founder.Alone, 1728 steps
noncomputable def fw48 : Ent :=
  ⟨11, [.agg ⟨[iP 4, iP 28, .slice (some ⟨3, 0, none⟩) 3 3, .slice (some ⟨4, 0, none⟩) 2 2, .bool false, .slice (some ⟨5, 0, none⟩) 1 1, .bool true, .slice none 0 0, .slice (some ⟨6, 0, none⟩) 3 3]⟩, iN 0], 7,
   gC ++ [(3, .cells true 0 [iP 1, iP 2, iP 2, iP 1, iP 1, iP 1, iP 2, iP 2, iP 1]),
    (4, .cells true 0 [iP 1, iP 2, iP 1, iP 1, iP 1, iP 2]),
    (5, .cells true 0 [iP 1, iP 2, iP 2]),
    (6, .cells true 0 [iP 0, iN 0, iP 2, iP 10, iP 0, iP 1, iP 2, iP 6, iP 1, iP 1, iP 0, iP 4])],
   [],
   .tuple ⟨[iP 0, iP 90]⟩⟩
theorem fw48_ok : fw48.okS EE.G = true := by kernel_rfl
theorem fw48_run : evT EE fxT 1000000000 (.call fw48.f fw48.args) fw48.heap (keptK fw48) = some (.bool true) := by kernel_rfl
theorem fw48_h : fw48.holds EE := ent_run envOk fxT_holds _ _ fw48_ok fw48_run
-- decani/founder.Open, 1728 steps
noncomputable def fw49 : Ent :=
  ⟨5, [.agg ⟨[iP 4, iP 28, .slice (some ⟨3, 0, none⟩) 3 3, .slice (some ⟨4, 0, none⟩) 2 2, .bool false, .slice (some ⟨5, 0, none⟩) 1 1, .bool true, .slice none 0 0, .slice (some ⟨6, 0, none⟩) 3 3]⟩, iN 0], 7,
   gC ++ [(3, .cells true 0 [iP 1, iP 2, iP 2, iP 1, iP 1, iP 1, iP 2, iP 2, iP 1]),
    (4, .cells true 0 [iP 1, iP 2, iP 1, iP 1, iP 1, iP 2]),
    (5, .cells true 0 [iP 1, iP 2, iP 2]),
    (6, .cells true 0 [iP 0, iN 0, iP 2, iP 10, iP 0, iP 1, iP 2, iP 6, iP 1, iP 1, iP 5, iP 4])],
   [],
   .tuple ⟨[.slice none 0 0, iP 90]⟩⟩
theorem fw49_ok : fw49.okS EE.G = true := by kernel_rfl
theorem fw49_run : evT EE fxT 1000000000 (.call fw49.f fw49.args) fw49.heap (keptK fw49) = some (.bool true) := by kernel_rfl
theorem fw49_h : fw49.holds EE := ent_run envOk fxT_holds _ _ fw49_ok fw49_run
-- decani/founder.Whose, 1728 steps
noncomputable def fw50 : Ent :=
  ⟨6, [.agg ⟨[iP 4, iP 28, .slice (some ⟨3, 0, none⟩) 3 3, .slice (some ⟨4, 0, none⟩) 2 2, .bool false, .slice (some ⟨5, 0, none⟩) 1 1, .bool true, .slice none 0 0, .slice (some ⟨6, 0, none⟩) 3 3]⟩, iN 0], 7,
   gC ++ [(3, .cells true 0 [iP 1, iP 2, iP 2, iP 1, iP 1, iP 1, iP 2, iP 2, iP 1]),
    (4, .cells true 0 [iP 1, iP 2, iP 1, iP 1, iP 1, iP 2]),
    (5, .cells true 0 [iP 1, iP 2, iP 2]),
    (6, .cells true 0 [iP 0, iN 0, iP 2, iP 10, iP 0, iP 1, iP 2, iP 6, iP 1, iP 1, iP 5, iP 4])],
   [],
   .tuple ⟨[.slice none 0 0, iP 90]⟩⟩
theorem fw50_ok : fw50.okS EE.G = true := by kernel_rfl
theorem fw50_run : evT EE fxT 1000000000 (.call fw50.f fw50.args) fw50.heap (keptK fw50) = some (.bool true) := by kernel_rfl
theorem fw50_h : fw50.holds EE := ent_run envOk fxT_holds _ _ fw50_ok fw50_run
-- decani/founder.Owed, 1728 steps
noncomputable def fw51 : Ent :=
  ⟨8, [.agg ⟨[iP 4, iP 28, .slice (some ⟨3, 0, none⟩) 3 3, .slice (some ⟨4, 0, none⟩) 2 2, .bool false, .slice (some ⟨5, 0, none⟩) 1 1, .bool true, .slice none 0 0, .slice (some ⟨6, 0, none⟩) 3 3]⟩, .slice none 0 0, iN 0], 7,
   gC ++ [(3, .cells true 0 [iP 1, iP 2, iP 2, iP 1, iP 1, iP 1, iP 2, iP 2, iP 1]),
    (4, .cells true 0 [iP 1, iP 2, iP 1, iP 1, iP 1, iP 2]),
    (5, .cells true 0 [iP 1, iP 2, iP 2]),
    (6, .cells true 0 [iP 0, iN 0, iP 2, iP 10, iP 0, iP 1, iP 2, iP 6, iP 1, iP 1, iP 5, iP 4])],
   [],
   .tuple ⟨[iP 0, iP 90]⟩⟩
theorem fw51_ok : fw51.okS EE.G = true := by kernel_rfl
theorem fw51_run : evT EE fxT 1000000000 (.call fw51.f fw51.args) fw51.heap (keptK fw51) = some (.bool true) := by kernel_rfl
theorem fw51_h : fw51.holds EE := ent_run envOk fxT_holds _ _ fw51_ok fw51_run
-- decani/founder.Alone, 1728 steps
noncomputable def fw52 : Ent :=
  ⟨11, [.agg ⟨[iP 4, iP 28, .slice (some ⟨3, 0, none⟩) 3 3, .slice (some ⟨4, 0, none⟩) 2 2, .bool false, .slice (some ⟨5, 0, none⟩) 1 1, .bool true, .slice none 0 0, .slice (some ⟨6, 0, none⟩) 3 3]⟩, iN 0], 7,
   gC ++ [(3, .cells true 0 [iP 1, iP 2, iP 2, iP 1, iP 1, iP 1, iP 2, iP 2, iP 1]),
    (4, .cells true 0 [iP 1, iP 2, iP 1, iP 1, iP 1, iP 2]),
    (5, .cells true 0 [iP 1, iP 2, iP 2]),
    (6, .cells true 0 [iP 0, iN 0, iP 2, iP 10, iP 0, iP 1, iP 2, iP 6, iP 1, iP 1, iP 5, iP 4])],
   [],
   .tuple ⟨[iP 0, iP 90]⟩⟩
theorem fw52_ok : fw52.okS EE.G = true := by kernel_rfl
theorem fw52_run : evT EE fxT 1000000000 (.call fw52.f fw52.args) fw52.heap (keptK fw52) = some (.bool true) := by kernel_rfl
theorem fw52_h : fw52.holds EE := ent_run envOk fxT_holds _ _ fw52_ok fw52_run
-- decani/founder.May, 1690 steps
noncomputable def fw53 : Ent :=
  ⟨7, [.agg ⟨[iP 4, iP 28, .slice (some ⟨3, 0, none⟩) 3 3, .slice (some ⟨4, 0, none⟩) 2 2, .bool false, .slice (some ⟨5, 0, none⟩) 1 1, .bool true, .slice none 0 0, .slice (some ⟨6, 0, none⟩) 3 3]⟩, .slice none 0 0], 7,
   gC ++ [(3, .cells true 0 [iP 1, iP 2, iP 2, iP 1, iP 1, iP 1, iP 2, iP 2, iP 1]),
    (4, .cells true 0 [iP 1, iP 2, iP 1, iP 1, iP 1, iP 2]),
    (5, .cells true 0 [iP 1, iP 2, iP 2]),
    (6, .cells true 0 [iP 0, iN 0, iP 2, iP 10, iP 0, iP 1, iP 2, iP 6, iP 1, iP 1, iP 0, iP 4])],
   [],
   .tuple ⟨[.bool false, iP 90]⟩⟩
theorem fw53_ok : fw53.okS EE.G = true := by kernel_rfl
theorem fw53_run : evT EE fxT 1000000000 (.call fw53.f fw53.args) fw53.heap (keptK fw53) = some (.bool true) := by kernel_rfl
theorem fw53_h : fw53.holds EE := ent_run envOk fxT_holds _ _ fw53_ok fw53_run
-- decani/founder.Plan, 1690 steps
noncomputable def fw54 : Ent :=
  ⟨9, [.agg ⟨[iP 4, iP 28, .slice (some ⟨3, 0, none⟩) 3 3, .slice (some ⟨4, 0, none⟩) 2 2, .bool false, .slice (some ⟨5, 0, none⟩) 1 1, .bool true, .slice none 0 0, .slice (some ⟨6, 0, none⟩) 3 3]⟩], 7,
   gC ++ [(3, .cells true 0 [iP 1, iP 2, iP 2, iP 1, iP 1, iP 1, iP 2, iP 2, iP 1]),
    (4, .cells true 0 [iP 1, iP 2, iP 1, iP 1, iP 1, iP 2]),
    (5, .cells true 0 [iP 1, iP 2, iP 2]),
    (6, .cells true 0 [iP 0, iN 0, iP 2, iP 10, iP 0, iP 1, iP 2, iP 6, iP 1, iP 1, iP 0, iP 4])],
   [],
   .tuple ⟨[.slice none 0 0, iP 90]⟩⟩
theorem fw54_ok : fw54.okS EE.G = true := by kernel_rfl
theorem fw54_run : evT EE fxT 1000000000 (.call fw54.f fw54.args) fw54.heap (keptK fw54) = some (.bool true) := by kernel_rfl
theorem fw54_h : fw54.holds EE := ent_run envOk fxT_holds _ _ fw54_ok fw54_run
-- decani/founder.Debt, 1690 steps
noncomputable def fw55 : Ent :=
  ⟨10, [.agg ⟨[iP 4, iP 28, .slice (some ⟨3, 0, none⟩) 3 3, .slice (some ⟨4, 0, none⟩) 2 2, .bool false, .slice (some ⟨5, 0, none⟩) 1 1, .bool true, .slice none 0 0, .slice (some ⟨6, 0, none⟩) 3 3]⟩], 7,
   gC ++ [(3, .cells true 0 [iP 1, iP 2, iP 2, iP 1, iP 1, iP 1, iP 2, iP 2, iP 1]),
    (4, .cells true 0 [iP 1, iP 2, iP 1, iP 1, iP 1, iP 2]),
    (5, .cells true 0 [iP 1, iP 2, iP 2]),
    (6, .cells true 0 [iP 0, iN 0, iP 2, iP 10, iP 0, iP 1, iP 2, iP 6, iP 1, iP 1, iP 0, iP 4])],
   [],
   .tuple ⟨[iP 0, iP 90]⟩⟩
theorem fw55_ok : fw55.okS EE.G = true := by kernel_rfl
theorem fw55_run : evT EE fxT 1000000000 (.call fw55.f fw55.args) fw55.heap (keptK fw55) = some (.bool true) := by kernel_rfl
theorem fw55_h : fw55.holds EE := ent_run envOk fxT_holds _ _ fw55_ok fw55_run
-- decani/founder.First, 1690 steps
noncomputable def fw56 : Ent :=
  ⟨12, [.agg ⟨[iP 4, iP 28, .slice (some ⟨3, 0, none⟩) 3 3, .slice (some ⟨4, 0, none⟩) 2 2, .bool false, .slice (some ⟨5, 0, none⟩) 1 1, .bool true, .slice none 0 0, .slice (some ⟨6, 0, none⟩) 3 3]⟩], 7,
   gC ++ [(3, .cells true 0 [iP 1, iP 2, iP 2, iP 1, iP 1, iP 1, iP 2, iP 2, iP 1]),
    (4, .cells true 0 [iP 1, iP 2, iP 1, iP 1, iP 1, iP 2]),
    (5, .cells true 0 [iP 1, iP 2, iP 2]),
    (6, .cells true 0 [iP 0, iN 0, iP 2, iP 10, iP 0, iP 1, iP 2, iP 6, iP 1, iP 1, iP 0, iP 4])],
   [],
   .tuple ⟨[iP 0, iP 90]⟩⟩
theorem fw56_ok : fw56.okS EE.G = true := by kernel_rfl
theorem fw56_run : evT EE fxT 1000000000 (.call fw56.f fw56.args) fw56.heap (keptK fw56) = some (.bool true) := by kernel_rfl
theorem fw56_h : fw56.holds EE := ent_run envOk fxT_holds _ _ fw56_ok fw56_run
-- decani/founder.Extra, 1690 steps
noncomputable def fw57 : Ent :=
  ⟨13, [.agg ⟨[iP 4, iP 28, .slice (some ⟨3, 0, none⟩) 3 3, .slice (some ⟨4, 0, none⟩) 2 2, .bool false, .slice (some ⟨5, 0, none⟩) 1 1, .bool true, .slice none 0 0, .slice (some ⟨6, 0, none⟩) 3 3]⟩], 7,
   gC ++ [(3, .cells true 0 [iP 1, iP 2, iP 2, iP 1, iP 1, iP 1, iP 2, iP 2, iP 1]),
    (4, .cells true 0 [iP 1, iP 2, iP 1, iP 1, iP 1, iP 2]),
    (5, .cells true 0 [iP 1, iP 2, iP 2]),
    (6, .cells true 0 [iP 0, iN 0, iP 2, iP 10, iP 0, iP 1, iP 2, iP 6, iP 1, iP 1, iP 0, iP 4])],
   [],
   .tuple ⟨[iP 0, iP 90]⟩⟩
theorem fw57_ok : fw57.okS EE.G = true := by kernel_rfl
theorem fw57_run : evT EE fxT 1000000000 (.call fw57.f fw57.args) fw57.heap (keptK fw57) = some (.bool true) := by kernel_rfl
theorem fw57_h : fw57.holds EE := ent_run envOk fxT_holds _ _ fw57_ok fw57_run
-- decani/founder.May, 1690 steps
noncomputable def fw58 : Ent :=
  ⟨7, [.agg ⟨[iP 4, iP 28, .slice (some ⟨3, 0, none⟩) 3 3, .slice (some ⟨4, 0, none⟩) 2 2, .bool false, .slice (some ⟨5, 0, none⟩) 1 1, .bool true, .slice none 0 0, .slice (some ⟨6, 0, none⟩) 3 3]⟩, .slice none 0 0], 7,
   gC ++ [(3, .cells true 0 [iP 1, iP 2, iP 2, iP 1, iP 1, iP 1, iP 2, iP 2, iP 1]),
    (4, .cells true 0 [iP 1, iP 2, iP 1, iP 1, iP 1, iP 2]),
    (5, .cells true 0 [iP 1, iP 2, iP 2]),
    (6, .cells true 0 [iP 0, iN 0, iP 2, iP 10, iP 0, iP 1, iP 2, iP 6, iP 1, iP 1, iP 5, iP 4])],
   [],
   .tuple ⟨[.bool false, iP 90]⟩⟩
theorem fw58_ok : fw58.okS EE.G = true := by kernel_rfl
theorem fw58_run : evT EE fxT 1000000000 (.call fw58.f fw58.args) fw58.heap (keptK fw58) = some (.bool true) := by kernel_rfl
theorem fw58_h : fw58.holds EE := ent_run envOk fxT_holds _ _ fw58_ok fw58_run
-- decani/founder.Plan, 1690 steps
noncomputable def fw59 : Ent :=
  ⟨9, [.agg ⟨[iP 4, iP 28, .slice (some ⟨3, 0, none⟩) 3 3, .slice (some ⟨4, 0, none⟩) 2 2, .bool false, .slice (some ⟨5, 0, none⟩) 1 1, .bool true, .slice none 0 0, .slice (some ⟨6, 0, none⟩) 3 3]⟩], 7,
   gC ++ [(3, .cells true 0 [iP 1, iP 2, iP 2, iP 1, iP 1, iP 1, iP 2, iP 2, iP 1]),
    (4, .cells true 0 [iP 1, iP 2, iP 1, iP 1, iP 1, iP 2]),
    (5, .cells true 0 [iP 1, iP 2, iP 2]),
    (6, .cells true 0 [iP 0, iN 0, iP 2, iP 10, iP 0, iP 1, iP 2, iP 6, iP 1, iP 1, iP 5, iP 4])],
   [],
   .tuple ⟨[.slice none 0 0, iP 90]⟩⟩
theorem fw59_ok : fw59.okS EE.G = true := by kernel_rfl
theorem fw59_run : evT EE fxT 1000000000 (.call fw59.f fw59.args) fw59.heap (keptK fw59) = some (.bool true) := by kernel_rfl
theorem fw59_h : fw59.holds EE := ent_run envOk fxT_holds _ _ fw59_ok fw59_run
-- decani/founder.Debt, 1690 steps
noncomputable def fw60 : Ent :=
  ⟨10, [.agg ⟨[iP 4, iP 28, .slice (some ⟨3, 0, none⟩) 3 3, .slice (some ⟨4, 0, none⟩) 2 2, .bool false, .slice (some ⟨5, 0, none⟩) 1 1, .bool true, .slice none 0 0, .slice (some ⟨6, 0, none⟩) 3 3]⟩], 7,
   gC ++ [(3, .cells true 0 [iP 1, iP 2, iP 2, iP 1, iP 1, iP 1, iP 2, iP 2, iP 1]),
    (4, .cells true 0 [iP 1, iP 2, iP 1, iP 1, iP 1, iP 2]),
    (5, .cells true 0 [iP 1, iP 2, iP 2]),
    (6, .cells true 0 [iP 0, iN 0, iP 2, iP 10, iP 0, iP 1, iP 2, iP 6, iP 1, iP 1, iP 5, iP 4])],
   [],
   .tuple ⟨[iP 0, iP 90]⟩⟩
theorem fw60_ok : fw60.okS EE.G = true := by kernel_rfl
theorem fw60_run : evT EE fxT 1000000000 (.call fw60.f fw60.args) fw60.heap (keptK fw60) = some (.bool true) := by kernel_rfl
theorem fw60_h : fw60.holds EE := ent_run envOk fxT_holds _ _ fw60_ok fw60_run
-- decani/founder.First, 1690 steps
noncomputable def fw61 : Ent :=
  ⟨12, [.agg ⟨[iP 4, iP 28, .slice (some ⟨3, 0, none⟩) 3 3, .slice (some ⟨4, 0, none⟩) 2 2, .bool false, .slice (some ⟨5, 0, none⟩) 1 1, .bool true, .slice none 0 0, .slice (some ⟨6, 0, none⟩) 3 3]⟩], 7,
   gC ++ [(3, .cells true 0 [iP 1, iP 2, iP 2, iP 1, iP 1, iP 1, iP 2, iP 2, iP 1]),
    (4, .cells true 0 [iP 1, iP 2, iP 1, iP 1, iP 1, iP 2]),
    (5, .cells true 0 [iP 1, iP 2, iP 2]),
    (6, .cells true 0 [iP 0, iN 0, iP 2, iP 10, iP 0, iP 1, iP 2, iP 6, iP 1, iP 1, iP 5, iP 4])],
   [],
   .tuple ⟨[iP 0, iP 90]⟩⟩
theorem fw61_ok : fw61.okS EE.G = true := by kernel_rfl
theorem fw61_run : evT EE fxT 1000000000 (.call fw61.f fw61.args) fw61.heap (keptK fw61) = some (.bool true) := by kernel_rfl
theorem fw61_h : fw61.holds EE := ent_run envOk fxT_holds _ _ fw61_ok fw61_run
-- decani/founder.Extra, 1690 steps
noncomputable def fw62 : Ent :=
  ⟨13, [.agg ⟨[iP 4, iP 28, .slice (some ⟨3, 0, none⟩) 3 3, .slice (some ⟨4, 0, none⟩) 2 2, .bool false, .slice (some ⟨5, 0, none⟩) 1 1, .bool true, .slice none 0 0, .slice (some ⟨6, 0, none⟩) 3 3]⟩], 7,
   gC ++ [(3, .cells true 0 [iP 1, iP 2, iP 2, iP 1, iP 1, iP 1, iP 2, iP 2, iP 1]),
    (4, .cells true 0 [iP 1, iP 2, iP 1, iP 1, iP 1, iP 2]),
    (5, .cells true 0 [iP 1, iP 2, iP 2]),
    (6, .cells true 0 [iP 0, iN 0, iP 2, iP 10, iP 0, iP 1, iP 2, iP 6, iP 1, iP 1, iP 5, iP 4])],
   [],
   .tuple ⟨[iP 0, iP 90]⟩⟩
theorem fw62_ok : fw62.okS EE.G = true := by kernel_rfl
theorem fw62_run : evT EE fxT 1000000000 (.call fw62.f fw62.args) fw62.heap (keptK fw62) = some (.bool true) := by kernel_rfl
theorem fw62_h : fw62.holds EE := ent_run envOk fxT_holds _ _ fw62_ok fw62_run
-- decani/founder.Open, 1575 steps
noncomputable def fw63 : Ent :=
  ⟨5, [.agg ⟨[iP 4, iP 28, .slice (some ⟨3, 0, none⟩) 3 3, .slice (some ⟨4, 0, none⟩) 2 2, .bool false, .slice (some ⟨5, 0, none⟩) 1 1, .bool true, .slice none 0 0, .slice (some ⟨6, 0, none⟩) 3 3]⟩, iN 0], 7,
   gC ++ [(3, .cells true 0 [iP 1, iP 2, iP 2, iP 1, iP 1, iP 1, iP 2, iP 2, iP 1]),
    (4, .cells true 0 [iP 1, iP 2, iP 1, iP 1, iP 1, iP 2]),
    (5, .cells true 0 [iP 1, iP 2, iP 2]),
    (6, .cells true 0 [iP 0, iN 0, iP 2, iP 10, iP 0, iP 4, iP 2, iP 6, iP 1, iP 1, iP 1, iP 4])],
   [],
   .tuple ⟨[.slice none 0 0, iP 90]⟩⟩
theorem fw63_ok : fw63.okS EE.G = true := by kernel_rfl
theorem fw63_run : evT EE fxT 1000000000 (.call fw63.f fw63.args) fw63.heap (keptK fw63) = some (.bool true) := by kernel_rfl
theorem fw63_h : fw63.holds EE := ent_run envOk fxT_holds _ _ fw63_ok fw63_run
-- decani/founder.Whose, 1575 steps
noncomputable def fw64 : Ent :=
  ⟨6, [.agg ⟨[iP 4, iP 28, .slice (some ⟨3, 0, none⟩) 3 3, .slice (some ⟨4, 0, none⟩) 2 2, .bool false, .slice (some ⟨5, 0, none⟩) 1 1, .bool true, .slice none 0 0, .slice (some ⟨6, 0, none⟩) 3 3]⟩, iN 0], 7,
   gC ++ [(3, .cells true 0 [iP 1, iP 2, iP 2, iP 1, iP 1, iP 1, iP 2, iP 2, iP 1]),
    (4, .cells true 0 [iP 1, iP 2, iP 1, iP 1, iP 1, iP 2]),
    (5, .cells true 0 [iP 1, iP 2, iP 2]),
    (6, .cells true 0 [iP 0, iN 0, iP 2, iP 10, iP 0, iP 4, iP 2, iP 6, iP 1, iP 1, iP 1, iP 4])],
   [],
   .tuple ⟨[.slice none 0 0, iP 90]⟩⟩
theorem fw64_ok : fw64.okS EE.G = true := by kernel_rfl
theorem fw64_run : evT EE fxT 1000000000 (.call fw64.f fw64.args) fw64.heap (keptK fw64) = some (.bool true) := by kernel_rfl
theorem fw64_h : fw64.holds EE := ent_run envOk fxT_holds _ _ fw64_ok fw64_run
-- decani/founder.Owed, 1575 steps
noncomputable def fw65 : Ent :=
  ⟨8, [.agg ⟨[iP 4, iP 28, .slice (some ⟨3, 0, none⟩) 3 3, .slice (some ⟨4, 0, none⟩) 2 2, .bool false, .slice (some ⟨5, 0, none⟩) 1 1, .bool true, .slice none 0 0, .slice (some ⟨6, 0, none⟩) 3 3]⟩, .slice none 0 0, iN 0], 7,
   gC ++ [(3, .cells true 0 [iP 1, iP 2, iP 2, iP 1, iP 1, iP 1, iP 2, iP 2, iP 1]),
    (4, .cells true 0 [iP 1, iP 2, iP 1, iP 1, iP 1, iP 2]),
    (5, .cells true 0 [iP 1, iP 2, iP 2]),
    (6, .cells true 0 [iP 0, iN 0, iP 2, iP 10, iP 0, iP 4, iP 2, iP 6, iP 1, iP 1, iP 1, iP 4])],
   [],
   .tuple ⟨[iP 0, iP 90]⟩⟩
theorem fw65_ok : fw65.okS EE.G = true := by kernel_rfl
theorem fw65_run : evT EE fxT 1000000000 (.call fw65.f fw65.args) fw65.heap (keptK fw65) = some (.bool true) := by kernel_rfl
theorem fw65_h : fw65.holds EE := ent_run envOk fxT_holds _ _ fw65_ok fw65_run
-- decani/founder.Alone, 1575 steps
noncomputable def fw66 : Ent :=
  ⟨11, [.agg ⟨[iP 4, iP 28, .slice (some ⟨3, 0, none⟩) 3 3, .slice (some ⟨4, 0, none⟩) 2 2, .bool false, .slice (some ⟨5, 0, none⟩) 1 1, .bool true, .slice none 0 0, .slice (some ⟨6, 0, none⟩) 3 3]⟩, iN 0], 7,
   gC ++ [(3, .cells true 0 [iP 1, iP 2, iP 2, iP 1, iP 1, iP 1, iP 2, iP 2, iP 1]),
    (4, .cells true 0 [iP 1, iP 2, iP 1, iP 1, iP 1, iP 2]),
    (5, .cells true 0 [iP 1, iP 2, iP 2]),
    (6, .cells true 0 [iP 0, iN 0, iP 2, iP 10, iP 0, iP 4, iP 2, iP 6, iP 1, iP 1, iP 1, iP 4])],
   [],
   .tuple ⟨[iP 0, iP 90]⟩⟩
theorem fw66_ok : fw66.okS EE.G = true := by kernel_rfl
theorem fw66_run : evT EE fxT 1000000000 (.call fw66.f fw66.args) fw66.heap (keptK fw66) = some (.bool true) := by kernel_rfl
theorem fw66_h : fw66.holds EE := ent_run envOk fxT_holds _ _ fw66_ok fw66_run
-- decani/founder.May, 1537 steps
noncomputable def fw67 : Ent :=
  ⟨7, [.agg ⟨[iP 4, iP 28, .slice (some ⟨3, 0, none⟩) 3 3, .slice (some ⟨4, 0, none⟩) 2 2, .bool false, .slice (some ⟨5, 0, none⟩) 1 1, .bool true, .slice none 0 0, .slice (some ⟨6, 0, none⟩) 3 3]⟩, .slice none 0 0], 7,
   gC ++ [(3, .cells true 0 [iP 1, iP 2, iP 2, iP 1, iP 1, iP 1, iP 2, iP 2, iP 1]),
    (4, .cells true 0 [iP 1, iP 2, iP 1, iP 1, iP 1, iP 2]),
    (5, .cells true 0 [iP 1, iP 2, iP 2]),
    (6, .cells true 0 [iP 0, iN 0, iP 2, iP 10, iP 0, iP 4, iP 2, iP 6, iP 1, iP 1, iP 1, iP 4])],
   [],
   .tuple ⟨[.bool false, iP 90]⟩⟩
theorem fw67_ok : fw67.okS EE.G = true := by kernel_rfl
theorem fw67_run : evT EE fxT 1000000000 (.call fw67.f fw67.args) fw67.heap (keptK fw67) = some (.bool true) := by kernel_rfl
theorem fw67_h : fw67.holds EE := ent_run envOk fxT_holds _ _ fw67_ok fw67_run
-- decani/founder.Plan, 1537 steps
noncomputable def fw68 : Ent :=
  ⟨9, [.agg ⟨[iP 4, iP 28, .slice (some ⟨3, 0, none⟩) 3 3, .slice (some ⟨4, 0, none⟩) 2 2, .bool false, .slice (some ⟨5, 0, none⟩) 1 1, .bool true, .slice none 0 0, .slice (some ⟨6, 0, none⟩) 3 3]⟩], 7,
   gC ++ [(3, .cells true 0 [iP 1, iP 2, iP 2, iP 1, iP 1, iP 1, iP 2, iP 2, iP 1]),
    (4, .cells true 0 [iP 1, iP 2, iP 1, iP 1, iP 1, iP 2]),
    (5, .cells true 0 [iP 1, iP 2, iP 2]),
    (6, .cells true 0 [iP 0, iN 0, iP 2, iP 10, iP 0, iP 4, iP 2, iP 6, iP 1, iP 1, iP 1, iP 4])],
   [],
   .tuple ⟨[.slice none 0 0, iP 90]⟩⟩
theorem fw68_ok : fw68.okS EE.G = true := by kernel_rfl
theorem fw68_run : evT EE fxT 1000000000 (.call fw68.f fw68.args) fw68.heap (keptK fw68) = some (.bool true) := by kernel_rfl
theorem fw68_h : fw68.holds EE := ent_run envOk fxT_holds _ _ fw68_ok fw68_run
-- decani/founder.Debt, 1537 steps
noncomputable def fw69 : Ent :=
  ⟨10, [.agg ⟨[iP 4, iP 28, .slice (some ⟨3, 0, none⟩) 3 3, .slice (some ⟨4, 0, none⟩) 2 2, .bool false, .slice (some ⟨5, 0, none⟩) 1 1, .bool true, .slice none 0 0, .slice (some ⟨6, 0, none⟩) 3 3]⟩], 7,
   gC ++ [(3, .cells true 0 [iP 1, iP 2, iP 2, iP 1, iP 1, iP 1, iP 2, iP 2, iP 1]),
    (4, .cells true 0 [iP 1, iP 2, iP 1, iP 1, iP 1, iP 2]),
    (5, .cells true 0 [iP 1, iP 2, iP 2]),
    (6, .cells true 0 [iP 0, iN 0, iP 2, iP 10, iP 0, iP 4, iP 2, iP 6, iP 1, iP 1, iP 1, iP 4])],
   [],
   .tuple ⟨[iP 0, iP 90]⟩⟩
theorem fw69_ok : fw69.okS EE.G = true := by kernel_rfl
theorem fw69_run : evT EE fxT 1000000000 (.call fw69.f fw69.args) fw69.heap (keptK fw69) = some (.bool true) := by kernel_rfl
theorem fw69_h : fw69.holds EE := ent_run envOk fxT_holds _ _ fw69_ok fw69_run
-- decani/founder.First, 1537 steps
noncomputable def fw70 : Ent :=
  ⟨12, [.agg ⟨[iP 4, iP 28, .slice (some ⟨3, 0, none⟩) 3 3, .slice (some ⟨4, 0, none⟩) 2 2, .bool false, .slice (some ⟨5, 0, none⟩) 1 1, .bool true, .slice none 0 0, .slice (some ⟨6, 0, none⟩) 3 3]⟩], 7,
   gC ++ [(3, .cells true 0 [iP 1, iP 2, iP 2, iP 1, iP 1, iP 1, iP 2, iP 2, iP 1]),
    (4, .cells true 0 [iP 1, iP 2, iP 1, iP 1, iP 1, iP 2]),
    (5, .cells true 0 [iP 1, iP 2, iP 2]),
    (6, .cells true 0 [iP 0, iN 0, iP 2, iP 10, iP 0, iP 4, iP 2, iP 6, iP 1, iP 1, iP 1, iP 4])],
   [],
   .tuple ⟨[iP 0, iP 90]⟩⟩
theorem fw70_ok : fw70.okS EE.G = true := by kernel_rfl
theorem fw70_run : evT EE fxT 1000000000 (.call fw70.f fw70.args) fw70.heap (keptK fw70) = some (.bool true) := by kernel_rfl
theorem fw70_h : fw70.holds EE := ent_run envOk fxT_holds _ _ fw70_ok fw70_run
-- decani/founder.Extra, 1537 steps
noncomputable def fw71 : Ent :=
  ⟨13, [.agg ⟨[iP 4, iP 28, .slice (some ⟨3, 0, none⟩) 3 3, .slice (some ⟨4, 0, none⟩) 2 2, .bool false, .slice (some ⟨5, 0, none⟩) 1 1, .bool true, .slice none 0 0, .slice (some ⟨6, 0, none⟩) 3 3]⟩], 7,
   gC ++ [(3, .cells true 0 [iP 1, iP 2, iP 2, iP 1, iP 1, iP 1, iP 2, iP 2, iP 1]),
    (4, .cells true 0 [iP 1, iP 2, iP 1, iP 1, iP 1, iP 2]),
    (5, .cells true 0 [iP 1, iP 2, iP 2]),
    (6, .cells true 0 [iP 0, iN 0, iP 2, iP 10, iP 0, iP 4, iP 2, iP 6, iP 1, iP 1, iP 1, iP 4])],
   [],
   .tuple ⟨[iP 0, iP 90]⟩⟩
theorem fw71_ok : fw71.okS EE.G = true := by kernel_rfl
theorem fw71_run : evT EE fxT 1000000000 (.call fw71.f fw71.args) fw71.heap (keptK fw71) = some (.bool true) := by kernel_rfl
theorem fw71_h : fw71.holds EE := ent_run envOk fxT_holds _ _ fw71_ok fw71_run
-- decani/founder.Open, 1476 steps
noncomputable def fw72 : Ent :=
  ⟨5, [.agg ⟨[iP 4, iP 28, .slice (some ⟨3, 0, none⟩) 3 3, .slice (some ⟨4, 0, none⟩) 2 2, .bool false, .slice (some ⟨5, 0, none⟩) 1 1, .bool true, .slice none 0 0, .slice (some ⟨6, 0, none⟩) 3 3]⟩, iN 0], 7,
   gC ++ [(3, .cells true 0 [iP 1, iP 2, iP 2, iP 1, iP 1, iP 1, iP 2, iP 2, iP 1]),
    (4, .cells true 0 [iP 1, iP 2, iP 1, iP 1, iP 1, iP 2]),
    (5, .cells true 0 [iP 1, iP 2, iP 2]),
    (6, .cells true 0 [iP 0, iN 0, iP 2, iP 100, iP 0, iP 1, iP 2, iP 6, iP 1, iP 1, iP 1, iP 4])],
   [],
   .tuple ⟨[.slice none 0 0, iP 90]⟩⟩
theorem fw72_ok : fw72.okS EE.G = true := by kernel_rfl
theorem fw72_run : evT EE fxT 1000000000 (.call fw72.f fw72.args) fw72.heap (keptK fw72) = some (.bool true) := by kernel_rfl
theorem fw72_h : fw72.holds EE := ent_run envOk fxT_holds _ _ fw72_ok fw72_run
-- decani/founder.Whose, 1476 steps
noncomputable def fw73 : Ent :=
  ⟨6, [.agg ⟨[iP 4, iP 28, .slice (some ⟨3, 0, none⟩) 3 3, .slice (some ⟨4, 0, none⟩) 2 2, .bool false, .slice (some ⟨5, 0, none⟩) 1 1, .bool true, .slice none 0 0, .slice (some ⟨6, 0, none⟩) 3 3]⟩, iN 0], 7,
   gC ++ [(3, .cells true 0 [iP 1, iP 2, iP 2, iP 1, iP 1, iP 1, iP 2, iP 2, iP 1]),
    (4, .cells true 0 [iP 1, iP 2, iP 1, iP 1, iP 1, iP 2]),
    (5, .cells true 0 [iP 1, iP 2, iP 2]),
    (6, .cells true 0 [iP 0, iN 0, iP 2, iP 100, iP 0, iP 1, iP 2, iP 6, iP 1, iP 1, iP 1, iP 4])],
   [],
   .tuple ⟨[.slice none 0 0, iP 90]⟩⟩
theorem fw73_ok : fw73.okS EE.G = true := by kernel_rfl
theorem fw73_run : evT EE fxT 1000000000 (.call fw73.f fw73.args) fw73.heap (keptK fw73) = some (.bool true) := by kernel_rfl
theorem fw73_h : fw73.holds EE := ent_run envOk fxT_holds _ _ fw73_ok fw73_run
-- decani/founder.Owed, 1476 steps
noncomputable def fw74 : Ent :=
  ⟨8, [.agg ⟨[iP 4, iP 28, .slice (some ⟨3, 0, none⟩) 3 3, .slice (some ⟨4, 0, none⟩) 2 2, .bool false, .slice (some ⟨5, 0, none⟩) 1 1, .bool true, .slice none 0 0, .slice (some ⟨6, 0, none⟩) 3 3]⟩, .slice none 0 0, iN 0], 7,
   gC ++ [(3, .cells true 0 [iP 1, iP 2, iP 2, iP 1, iP 1, iP 1, iP 2, iP 2, iP 1]),
    (4, .cells true 0 [iP 1, iP 2, iP 1, iP 1, iP 1, iP 2]),
    (5, .cells true 0 [iP 1, iP 2, iP 2]),
    (6, .cells true 0 [iP 0, iN 0, iP 2, iP 100, iP 0, iP 1, iP 2, iP 6, iP 1, iP 1, iP 1, iP 4])],
   [],
   .tuple ⟨[iP 0, iP 90]⟩⟩
theorem fw74_ok : fw74.okS EE.G = true := by kernel_rfl
theorem fw74_run : evT EE fxT 1000000000 (.call fw74.f fw74.args) fw74.heap (keptK fw74) = some (.bool true) := by kernel_rfl
theorem fw74_h : fw74.holds EE := ent_run envOk fxT_holds _ _ fw74_ok fw74_run
-- decani/founder.Alone, 1476 steps
noncomputable def fw75 : Ent :=
  ⟨11, [.agg ⟨[iP 4, iP 28, .slice (some ⟨3, 0, none⟩) 3 3, .slice (some ⟨4, 0, none⟩) 2 2, .bool false, .slice (some ⟨5, 0, none⟩) 1 1, .bool true, .slice none 0 0, .slice (some ⟨6, 0, none⟩) 3 3]⟩, iN 0], 7,
   gC ++ [(3, .cells true 0 [iP 1, iP 2, iP 2, iP 1, iP 1, iP 1, iP 2, iP 2, iP 1]),
    (4, .cells true 0 [iP 1, iP 2, iP 1, iP 1, iP 1, iP 2]),
    (5, .cells true 0 [iP 1, iP 2, iP 2]),
    (6, .cells true 0 [iP 0, iN 0, iP 2, iP 100, iP 0, iP 1, iP 2, iP 6, iP 1, iP 1, iP 1, iP 4])],
   [],
   .tuple ⟨[iP 0, iP 90]⟩⟩
theorem fw75_ok : fw75.okS EE.G = true := by kernel_rfl
theorem fw75_run : evT EE fxT 1000000000 (.call fw75.f fw75.args) fw75.heap (keptK fw75) = some (.bool true) := by kernel_rfl
theorem fw75_h : fw75.holds EE := ent_run envOk fxT_holds _ _ fw75_ok fw75_run
-- decani/founder.Open, 1476 steps
noncomputable def fw76 : Ent :=
  ⟨5, [.agg ⟨[iP 4, iP 28, .slice (some ⟨3, 0, none⟩) 3 3, .slice (some ⟨4, 0, none⟩) 2 2, .bool false, .slice (some ⟨5, 0, none⟩) 1 1, .bool true, .slice none 0 0, .slice (some ⟨6, 0, none⟩) 3 3]⟩, iN 0], 7,
   gC ++ [(3, .cells true 0 [iP 1, iP 2, iP 2, iP 1, iP 1, iP 1, iP 2, iP 2, iP 1]),
    (4, .cells true 0 [iP 1, iP 2, iP 1, iP 1, iP 1, iP 2]),
    (5, .cells true 0 [iP 1, iP 2, iP 2]),
    (6, .cells true 0 [iP 0, iN 0, iP 2, iP 0, iP 0, iP 1, iP 2, iP 6, iP 1, iP 1, iP 1, iP 4])],
   [],
   .tuple ⟨[.slice none 0 0, iP 90]⟩⟩
theorem fw76_ok : fw76.okS EE.G = true := by kernel_rfl
theorem fw76_run : evT EE fxT 1000000000 (.call fw76.f fw76.args) fw76.heap (keptK fw76) = some (.bool true) := by kernel_rfl
theorem fw76_h : fw76.holds EE := ent_run envOk fxT_holds _ _ fw76_ok fw76_run
-- decani/founder.Whose, 1476 steps
noncomputable def fw77 : Ent :=
  ⟨6, [.agg ⟨[iP 4, iP 28, .slice (some ⟨3, 0, none⟩) 3 3, .slice (some ⟨4, 0, none⟩) 2 2, .bool false, .slice (some ⟨5, 0, none⟩) 1 1, .bool true, .slice none 0 0, .slice (some ⟨6, 0, none⟩) 3 3]⟩, iN 0], 7,
   gC ++ [(3, .cells true 0 [iP 1, iP 2, iP 2, iP 1, iP 1, iP 1, iP 2, iP 2, iP 1]),
    (4, .cells true 0 [iP 1, iP 2, iP 1, iP 1, iP 1, iP 2]),
    (5, .cells true 0 [iP 1, iP 2, iP 2]),
    (6, .cells true 0 [iP 0, iN 0, iP 2, iP 0, iP 0, iP 1, iP 2, iP 6, iP 1, iP 1, iP 1, iP 4])],
   [],
   .tuple ⟨[.slice none 0 0, iP 90]⟩⟩
theorem fw77_ok : fw77.okS EE.G = true := by kernel_rfl
theorem fw77_run : evT EE fxT 1000000000 (.call fw77.f fw77.args) fw77.heap (keptK fw77) = some (.bool true) := by kernel_rfl
theorem fw77_h : fw77.holds EE := ent_run envOk fxT_holds _ _ fw77_ok fw77_run
-- decani/founder.Owed, 1476 steps
noncomputable def fw78 : Ent :=
  ⟨8, [.agg ⟨[iP 4, iP 28, .slice (some ⟨3, 0, none⟩) 3 3, .slice (some ⟨4, 0, none⟩) 2 2, .bool false, .slice (some ⟨5, 0, none⟩) 1 1, .bool true, .slice none 0 0, .slice (some ⟨6, 0, none⟩) 3 3]⟩, .slice none 0 0, iN 0], 7,
   gC ++ [(3, .cells true 0 [iP 1, iP 2, iP 2, iP 1, iP 1, iP 1, iP 2, iP 2, iP 1]),
    (4, .cells true 0 [iP 1, iP 2, iP 1, iP 1, iP 1, iP 2]),
    (5, .cells true 0 [iP 1, iP 2, iP 2]),
    (6, .cells true 0 [iP 0, iN 0, iP 2, iP 0, iP 0, iP 1, iP 2, iP 6, iP 1, iP 1, iP 1, iP 4])],
   [],
   .tuple ⟨[iP 0, iP 90]⟩⟩
theorem fw78_ok : fw78.okS EE.G = true := by kernel_rfl
theorem fw78_run : evT EE fxT 1000000000 (.call fw78.f fw78.args) fw78.heap (keptK fw78) = some (.bool true) := by kernel_rfl
theorem fw78_h : fw78.holds EE := ent_run envOk fxT_holds _ _ fw78_ok fw78_run
-- decani/founder.Alone, 1476 steps
noncomputable def fw79 : Ent :=
  ⟨11, [.agg ⟨[iP 4, iP 28, .slice (some ⟨3, 0, none⟩) 3 3, .slice (some ⟨4, 0, none⟩) 2 2, .bool false, .slice (some ⟨5, 0, none⟩) 1 1, .bool true, .slice none 0 0, .slice (some ⟨6, 0, none⟩) 3 3]⟩, iN 0], 7,
   gC ++ [(3, .cells true 0 [iP 1, iP 2, iP 2, iP 1, iP 1, iP 1, iP 2, iP 2, iP 1]),
    (4, .cells true 0 [iP 1, iP 2, iP 1, iP 1, iP 1, iP 2]),
    (5, .cells true 0 [iP 1, iP 2, iP 2]),
    (6, .cells true 0 [iP 0, iN 0, iP 2, iP 0, iP 0, iP 1, iP 2, iP 6, iP 1, iP 1, iP 1, iP 4])],
   [],
   .tuple ⟨[iP 0, iP 90]⟩⟩
theorem fw79_ok : fw79.okS EE.G = true := by kernel_rfl
theorem fw79_run : evT EE fxT 1000000000 (.call fw79.f fw79.args) fw79.heap (keptK fw79) = some (.bool true) := by kernel_rfl
theorem fw79_h : fw79.holds EE := ent_run envOk fxT_holds _ _ fw79_ok fw79_run
-- decani/founder.Open, 1440 steps
noncomputable def fw80 : Ent :=
  ⟨5, [.agg ⟨[iP 4, iP 28, .slice (some ⟨3, 0, none⟩) 3 3, .slice (some ⟨4, 0, none⟩) 2 2, .bool false, .slice (some ⟨5, 0, none⟩) 1 1, .bool true, .slice none 0 0, .slice (some ⟨6, 0, none⟩) 3 3]⟩, iN 0], 7,
   gC ++ [(3, .cells true 0 [iP 1, iP 2, iP 2, iP 1, iP 1, iP 1, iP 2, iP 2, iP 1]),
    (4, .cells true 0 [iP 1, iP 2, iP 1, iP 1, iP 1, iP 2]),
    (5, .cells true 0 [iP 1, iP 2, iP 2]),
    (6, .cells true 0 [iP 0, iN 1, iP 2, iP 10, iP 0, iP 1, iP 2, iP 6, iP 1, iP 1, iP 1, iP 4])],
   [],
   .tuple ⟨[.slice none 0 0, iP 90]⟩⟩
theorem fw80_ok : fw80.okS EE.G = true := by kernel_rfl
theorem fw80_run : evT EE fxT 1000000000 (.call fw80.f fw80.args) fw80.heap (keptK fw80) = some (.bool true) := by kernel_rfl
theorem fw80_h : fw80.holds EE := ent_run envOk fxT_holds _ _ fw80_ok fw80_run
-- decani/founder.Whose, 1440 steps
noncomputable def fw81 : Ent :=
  ⟨6, [.agg ⟨[iP 4, iP 28, .slice (some ⟨3, 0, none⟩) 3 3, .slice (some ⟨4, 0, none⟩) 2 2, .bool false, .slice (some ⟨5, 0, none⟩) 1 1, .bool true, .slice none 0 0, .slice (some ⟨6, 0, none⟩) 3 3]⟩, iN 0], 7,
   gC ++ [(3, .cells true 0 [iP 1, iP 2, iP 2, iP 1, iP 1, iP 1, iP 2, iP 2, iP 1]),
    (4, .cells true 0 [iP 1, iP 2, iP 1, iP 1, iP 1, iP 2]),
    (5, .cells true 0 [iP 1, iP 2, iP 2]),
    (6, .cells true 0 [iP 0, iN 1, iP 2, iP 10, iP 0, iP 1, iP 2, iP 6, iP 1, iP 1, iP 1, iP 4])],
   [],
   .tuple ⟨[.slice none 0 0, iP 90]⟩⟩
theorem fw81_ok : fw81.okS EE.G = true := by kernel_rfl
theorem fw81_run : evT EE fxT 1000000000 (.call fw81.f fw81.args) fw81.heap (keptK fw81) = some (.bool true) := by kernel_rfl
theorem fw81_h : fw81.holds EE := ent_run envOk fxT_holds _ _ fw81_ok fw81_run
-- decani/founder.Owed, 1440 steps
noncomputable def fw82 : Ent :=
  ⟨8, [.agg ⟨[iP 4, iP 28, .slice (some ⟨3, 0, none⟩) 3 3, .slice (some ⟨4, 0, none⟩) 2 2, .bool false, .slice (some ⟨5, 0, none⟩) 1 1, .bool true, .slice none 0 0, .slice (some ⟨6, 0, none⟩) 3 3]⟩, .slice none 0 0, iN 0], 7,
   gC ++ [(3, .cells true 0 [iP 1, iP 2, iP 2, iP 1, iP 1, iP 1, iP 2, iP 2, iP 1]),
    (4, .cells true 0 [iP 1, iP 2, iP 1, iP 1, iP 1, iP 2]),
    (5, .cells true 0 [iP 1, iP 2, iP 2]),
    (6, .cells true 0 [iP 0, iN 1, iP 2, iP 10, iP 0, iP 1, iP 2, iP 6, iP 1, iP 1, iP 1, iP 4])],
   [],
   .tuple ⟨[iP 0, iP 90]⟩⟩
theorem fw82_ok : fw82.okS EE.G = true := by kernel_rfl
theorem fw82_run : evT EE fxT 1000000000 (.call fw82.f fw82.args) fw82.heap (keptK fw82) = some (.bool true) := by kernel_rfl
theorem fw82_h : fw82.holds EE := ent_run envOk fxT_holds _ _ fw82_ok fw82_run
-- decani/founder.Alone, 1440 steps
noncomputable def fw83 : Ent :=
  ⟨11, [.agg ⟨[iP 4, iP 28, .slice (some ⟨3, 0, none⟩) 3 3, .slice (some ⟨4, 0, none⟩) 2 2, .bool false, .slice (some ⟨5, 0, none⟩) 1 1, .bool true, .slice none 0 0, .slice (some ⟨6, 0, none⟩) 3 3]⟩, iN 0], 7,
   gC ++ [(3, .cells true 0 [iP 1, iP 2, iP 2, iP 1, iP 1, iP 1, iP 2, iP 2, iP 1]),
    (4, .cells true 0 [iP 1, iP 2, iP 1, iP 1, iP 1, iP 2]),
    (5, .cells true 0 [iP 1, iP 2, iP 2]),
    (6, .cells true 0 [iP 0, iN 1, iP 2, iP 10, iP 0, iP 1, iP 2, iP 6, iP 1, iP 1, iP 1, iP 4])],
   [],
   .tuple ⟨[iP 0, iP 90]⟩⟩
theorem fw83_ok : fw83.okS EE.G = true := by kernel_rfl
theorem fw83_run : evT EE fxT 1000000000 (.call fw83.f fw83.args) fw83.heap (keptK fw83) = some (.bool true) := by kernel_rfl
theorem fw83_h : fw83.holds EE := ent_run envOk fxT_holds _ _ fw83_ok fw83_run
-- decani/founder.May, 1438 steps
noncomputable def fw84 : Ent :=
  ⟨7, [.agg ⟨[iP 4, iP 28, .slice (some ⟨3, 0, none⟩) 3 3, .slice (some ⟨4, 0, none⟩) 2 2, .bool false, .slice (some ⟨5, 0, none⟩) 1 1, .bool true, .slice none 0 0, .slice (some ⟨6, 0, none⟩) 3 3]⟩, .slice none 0 0], 7,
   gC ++ [(3, .cells true 0 [iP 1, iP 2, iP 2, iP 1, iP 1, iP 1, iP 2, iP 2, iP 1]),
    (4, .cells true 0 [iP 1, iP 2, iP 1, iP 1, iP 1, iP 2]),
    (5, .cells true 0 [iP 1, iP 2, iP 2]),
    (6, .cells true 0 [iP 0, iN 0, iP 2, iP 100, iP 0, iP 1, iP 2, iP 6, iP 1, iP 1, iP 1, iP 4])],
   [],
   .tuple ⟨[.bool false, iP 90]⟩⟩
theorem fw84_ok : fw84.okS EE.G = true := by kernel_rfl
theorem fw84_run : evT EE fxT 1000000000 (.call fw84.f fw84.args) fw84.heap (keptK fw84) = some (.bool true) := by kernel_rfl
theorem fw84_h : fw84.holds EE := ent_run envOk fxT_holds _ _ fw84_ok fw84_run
-- decani/founder.Plan, 1438 steps
noncomputable def fw85 : Ent :=
  ⟨9, [.agg ⟨[iP 4, iP 28, .slice (some ⟨3, 0, none⟩) 3 3, .slice (some ⟨4, 0, none⟩) 2 2, .bool false, .slice (some ⟨5, 0, none⟩) 1 1, .bool true, .slice none 0 0, .slice (some ⟨6, 0, none⟩) 3 3]⟩], 7,
   gC ++ [(3, .cells true 0 [iP 1, iP 2, iP 2, iP 1, iP 1, iP 1, iP 2, iP 2, iP 1]),
    (4, .cells true 0 [iP 1, iP 2, iP 1, iP 1, iP 1, iP 2]),
    (5, .cells true 0 [iP 1, iP 2, iP 2]),
    (6, .cells true 0 [iP 0, iN 0, iP 2, iP 100, iP 0, iP 1, iP 2, iP 6, iP 1, iP 1, iP 1, iP 4])],
   [],
   .tuple ⟨[.slice none 0 0, iP 90]⟩⟩
theorem fw85_ok : fw85.okS EE.G = true := by kernel_rfl
theorem fw85_run : evT EE fxT 1000000000 (.call fw85.f fw85.args) fw85.heap (keptK fw85) = some (.bool true) := by kernel_rfl
theorem fw85_h : fw85.holds EE := ent_run envOk fxT_holds _ _ fw85_ok fw85_run
-- decani/founder.Debt, 1438 steps
noncomputable def fw86 : Ent :=
  ⟨10, [.agg ⟨[iP 4, iP 28, .slice (some ⟨3, 0, none⟩) 3 3, .slice (some ⟨4, 0, none⟩) 2 2, .bool false, .slice (some ⟨5, 0, none⟩) 1 1, .bool true, .slice none 0 0, .slice (some ⟨6, 0, none⟩) 3 3]⟩], 7,
   gC ++ [(3, .cells true 0 [iP 1, iP 2, iP 2, iP 1, iP 1, iP 1, iP 2, iP 2, iP 1]),
    (4, .cells true 0 [iP 1, iP 2, iP 1, iP 1, iP 1, iP 2]),
    (5, .cells true 0 [iP 1, iP 2, iP 2]),
    (6, .cells true 0 [iP 0, iN 0, iP 2, iP 100, iP 0, iP 1, iP 2, iP 6, iP 1, iP 1, iP 1, iP 4])],
   [],
   .tuple ⟨[iP 0, iP 90]⟩⟩
theorem fw86_ok : fw86.okS EE.G = true := by kernel_rfl
theorem fw86_run : evT EE fxT 1000000000 (.call fw86.f fw86.args) fw86.heap (keptK fw86) = some (.bool true) := by kernel_rfl
theorem fw86_h : fw86.holds EE := ent_run envOk fxT_holds _ _ fw86_ok fw86_run
-- decani/founder.First, 1438 steps
noncomputable def fw87 : Ent :=
  ⟨12, [.agg ⟨[iP 4, iP 28, .slice (some ⟨3, 0, none⟩) 3 3, .slice (some ⟨4, 0, none⟩) 2 2, .bool false, .slice (some ⟨5, 0, none⟩) 1 1, .bool true, .slice none 0 0, .slice (some ⟨6, 0, none⟩) 3 3]⟩], 7,
   gC ++ [(3, .cells true 0 [iP 1, iP 2, iP 2, iP 1, iP 1, iP 1, iP 2, iP 2, iP 1]),
    (4, .cells true 0 [iP 1, iP 2, iP 1, iP 1, iP 1, iP 2]),
    (5, .cells true 0 [iP 1, iP 2, iP 2]),
    (6, .cells true 0 [iP 0, iN 0, iP 2, iP 100, iP 0, iP 1, iP 2, iP 6, iP 1, iP 1, iP 1, iP 4])],
   [],
   .tuple ⟨[iP 0, iP 90]⟩⟩
theorem fw87_ok : fw87.okS EE.G = true := by kernel_rfl
theorem fw87_run : evT EE fxT 1000000000 (.call fw87.f fw87.args) fw87.heap (keptK fw87) = some (.bool true) := by kernel_rfl
theorem fw87_h : fw87.holds EE := ent_run envOk fxT_holds _ _ fw87_ok fw87_run
-- decani/founder.Extra, 1438 steps
noncomputable def fw88 : Ent :=
  ⟨13, [.agg ⟨[iP 4, iP 28, .slice (some ⟨3, 0, none⟩) 3 3, .slice (some ⟨4, 0, none⟩) 2 2, .bool false, .slice (some ⟨5, 0, none⟩) 1 1, .bool true, .slice none 0 0, .slice (some ⟨6, 0, none⟩) 3 3]⟩], 7,
   gC ++ [(3, .cells true 0 [iP 1, iP 2, iP 2, iP 1, iP 1, iP 1, iP 2, iP 2, iP 1]),
    (4, .cells true 0 [iP 1, iP 2, iP 1, iP 1, iP 1, iP 2]),
    (5, .cells true 0 [iP 1, iP 2, iP 2]),
    (6, .cells true 0 [iP 0, iN 0, iP 2, iP 100, iP 0, iP 1, iP 2, iP 6, iP 1, iP 1, iP 1, iP 4])],
   [],
   .tuple ⟨[iP 0, iP 90]⟩⟩
theorem fw88_ok : fw88.okS EE.G = true := by kernel_rfl
theorem fw88_run : evT EE fxT 1000000000 (.call fw88.f fw88.args) fw88.heap (keptK fw88) = some (.bool true) := by kernel_rfl
theorem fw88_h : fw88.holds EE := ent_run envOk fxT_holds _ _ fw88_ok fw88_run
-- decani/founder.May, 1438 steps
noncomputable def fw89 : Ent :=
  ⟨7, [.agg ⟨[iP 4, iP 28, .slice (some ⟨3, 0, none⟩) 3 3, .slice (some ⟨4, 0, none⟩) 2 2, .bool false, .slice (some ⟨5, 0, none⟩) 1 1, .bool true, .slice none 0 0, .slice (some ⟨6, 0, none⟩) 3 3]⟩, .slice none 0 0], 7,
   gC ++ [(3, .cells true 0 [iP 1, iP 2, iP 2, iP 1, iP 1, iP 1, iP 2, iP 2, iP 1]),
    (4, .cells true 0 [iP 1, iP 2, iP 1, iP 1, iP 1, iP 2]),
    (5, .cells true 0 [iP 1, iP 2, iP 2]),
    (6, .cells true 0 [iP 0, iN 0, iP 2, iP 0, iP 0, iP 1, iP 2, iP 6, iP 1, iP 1, iP 1, iP 4])],
   [],
   .tuple ⟨[.bool false, iP 90]⟩⟩
theorem fw89_ok : fw89.okS EE.G = true := by kernel_rfl
theorem fw89_run : evT EE fxT 1000000000 (.call fw89.f fw89.args) fw89.heap (keptK fw89) = some (.bool true) := by kernel_rfl
theorem fw89_h : fw89.holds EE := ent_run envOk fxT_holds _ _ fw89_ok fw89_run
-- decani/founder.Plan, 1438 steps
noncomputable def fw90 : Ent :=
  ⟨9, [.agg ⟨[iP 4, iP 28, .slice (some ⟨3, 0, none⟩) 3 3, .slice (some ⟨4, 0, none⟩) 2 2, .bool false, .slice (some ⟨5, 0, none⟩) 1 1, .bool true, .slice none 0 0, .slice (some ⟨6, 0, none⟩) 3 3]⟩], 7,
   gC ++ [(3, .cells true 0 [iP 1, iP 2, iP 2, iP 1, iP 1, iP 1, iP 2, iP 2, iP 1]),
    (4, .cells true 0 [iP 1, iP 2, iP 1, iP 1, iP 1, iP 2]),
    (5, .cells true 0 [iP 1, iP 2, iP 2]),
    (6, .cells true 0 [iP 0, iN 0, iP 2, iP 0, iP 0, iP 1, iP 2, iP 6, iP 1, iP 1, iP 1, iP 4])],
   [],
   .tuple ⟨[.slice none 0 0, iP 90]⟩⟩
theorem fw90_ok : fw90.okS EE.G = true := by kernel_rfl
theorem fw90_run : evT EE fxT 1000000000 (.call fw90.f fw90.args) fw90.heap (keptK fw90) = some (.bool true) := by kernel_rfl
theorem fw90_h : fw90.holds EE := ent_run envOk fxT_holds _ _ fw90_ok fw90_run
-- decani/founder.Debt, 1438 steps
noncomputable def fw91 : Ent :=
  ⟨10, [.agg ⟨[iP 4, iP 28, .slice (some ⟨3, 0, none⟩) 3 3, .slice (some ⟨4, 0, none⟩) 2 2, .bool false, .slice (some ⟨5, 0, none⟩) 1 1, .bool true, .slice none 0 0, .slice (some ⟨6, 0, none⟩) 3 3]⟩], 7,
   gC ++ [(3, .cells true 0 [iP 1, iP 2, iP 2, iP 1, iP 1, iP 1, iP 2, iP 2, iP 1]),
    (4, .cells true 0 [iP 1, iP 2, iP 1, iP 1, iP 1, iP 2]),
    (5, .cells true 0 [iP 1, iP 2, iP 2]),
    (6, .cells true 0 [iP 0, iN 0, iP 2, iP 0, iP 0, iP 1, iP 2, iP 6, iP 1, iP 1, iP 1, iP 4])],
   [],
   .tuple ⟨[iP 0, iP 90]⟩⟩
theorem fw91_ok : fw91.okS EE.G = true := by kernel_rfl
theorem fw91_run : evT EE fxT 1000000000 (.call fw91.f fw91.args) fw91.heap (keptK fw91) = some (.bool true) := by kernel_rfl
theorem fw91_h : fw91.holds EE := ent_run envOk fxT_holds _ _ fw91_ok fw91_run
-- decani/founder.First, 1438 steps
noncomputable def fw92 : Ent :=
  ⟨12, [.agg ⟨[iP 4, iP 28, .slice (some ⟨3, 0, none⟩) 3 3, .slice (some ⟨4, 0, none⟩) 2 2, .bool false, .slice (some ⟨5, 0, none⟩) 1 1, .bool true, .slice none 0 0, .slice (some ⟨6, 0, none⟩) 3 3]⟩], 7,
   gC ++ [(3, .cells true 0 [iP 1, iP 2, iP 2, iP 1, iP 1, iP 1, iP 2, iP 2, iP 1]),
    (4, .cells true 0 [iP 1, iP 2, iP 1, iP 1, iP 1, iP 2]),
    (5, .cells true 0 [iP 1, iP 2, iP 2]),
    (6, .cells true 0 [iP 0, iN 0, iP 2, iP 0, iP 0, iP 1, iP 2, iP 6, iP 1, iP 1, iP 1, iP 4])],
   [],
   .tuple ⟨[iP 0, iP 90]⟩⟩
theorem fw92_ok : fw92.okS EE.G = true := by kernel_rfl
theorem fw92_run : evT EE fxT 1000000000 (.call fw92.f fw92.args) fw92.heap (keptK fw92) = some (.bool true) := by kernel_rfl
theorem fw92_h : fw92.holds EE := ent_run envOk fxT_holds _ _ fw92_ok fw92_run
-- decani/founder.Extra, 1438 steps
noncomputable def fw93 : Ent :=
  ⟨13, [.agg ⟨[iP 4, iP 28, .slice (some ⟨3, 0, none⟩) 3 3, .slice (some ⟨4, 0, none⟩) 2 2, .bool false, .slice (some ⟨5, 0, none⟩) 1 1, .bool true, .slice none 0 0, .slice (some ⟨6, 0, none⟩) 3 3]⟩], 7,
   gC ++ [(3, .cells true 0 [iP 1, iP 2, iP 2, iP 1, iP 1, iP 1, iP 2, iP 2, iP 1]),
    (4, .cells true 0 [iP 1, iP 2, iP 1, iP 1, iP 1, iP 2]),
    (5, .cells true 0 [iP 1, iP 2, iP 2]),
    (6, .cells true 0 [iP 0, iN 0, iP 2, iP 0, iP 0, iP 1, iP 2, iP 6, iP 1, iP 1, iP 1, iP 4])],
   [],
   .tuple ⟨[iP 0, iP 90]⟩⟩
theorem fw93_ok : fw93.okS EE.G = true := by kernel_rfl
theorem fw93_run : evT EE fxT 1000000000 (.call fw93.f fw93.args) fw93.heap (keptK fw93) = some (.bool true) := by kernel_rfl
theorem fw93_h : fw93.holds EE := ent_run envOk fxT_holds _ _ fw93_ok fw93_run
-- decani/founder.Open, 1422 steps
noncomputable def fw94 : Ent :=
  ⟨5, [.agg ⟨[iP 4, iP 28, .slice (some ⟨3, 0, none⟩) 3 3, .slice (some ⟨4, 0, none⟩) 2 2, .bool false, .slice (some ⟨5, 0, none⟩) 1 1, .bool true, .slice none 0 0, .slice (some ⟨6, 0, none⟩) 3 3]⟩, iN 0], 7,
   gC ++ [(3, .cells true 0 [iP 1, iP 2, iP 2, iP 1, iP 1, iP 1, iP 2, iP 2, iP 1]),
    (4, .cells true 0 [iP 1, iP 2, iP 1, iP 1, iP 1, iP 2]),
    (5, .cells true 0 [iP 1, iP 2, iP 2]),
    (6, .cells true 0 [iP 2, iN 0, iP 2, iP 10, iP 0, iP 1, iP 2, iP 6, iP 1, iP 1, iP 1, iP 4])],
   [],
   .tuple ⟨[.slice none 0 0, iP 90]⟩⟩
theorem fw94_ok : fw94.okS EE.G = true := by kernel_rfl
theorem fw94_run : evT EE fxT 1000000000 (.call fw94.f fw94.args) fw94.heap (keptK fw94) = some (.bool true) := by kernel_rfl
theorem fw94_h : fw94.holds EE := ent_run envOk fxT_holds _ _ fw94_ok fw94_run
-- decani/founder.Whose, 1422 steps
noncomputable def fw95 : Ent :=
  ⟨6, [.agg ⟨[iP 4, iP 28, .slice (some ⟨3, 0, none⟩) 3 3, .slice (some ⟨4, 0, none⟩) 2 2, .bool false, .slice (some ⟨5, 0, none⟩) 1 1, .bool true, .slice none 0 0, .slice (some ⟨6, 0, none⟩) 3 3]⟩, iN 0], 7,
   gC ++ [(3, .cells true 0 [iP 1, iP 2, iP 2, iP 1, iP 1, iP 1, iP 2, iP 2, iP 1]),
    (4, .cells true 0 [iP 1, iP 2, iP 1, iP 1, iP 1, iP 2]),
    (5, .cells true 0 [iP 1, iP 2, iP 2]),
    (6, .cells true 0 [iP 2, iN 0, iP 2, iP 10, iP 0, iP 1, iP 2, iP 6, iP 1, iP 1, iP 1, iP 4])],
   [],
   .tuple ⟨[.slice none 0 0, iP 90]⟩⟩
theorem fw95_ok : fw95.okS EE.G = true := by kernel_rfl
theorem fw95_run : evT EE fxT 1000000000 (.call fw95.f fw95.args) fw95.heap (keptK fw95) = some (.bool true) := by kernel_rfl
theorem fw95_h : fw95.holds EE := ent_run envOk fxT_holds _ _ fw95_ok fw95_run
-- decani/founder.Owed, 1422 steps
noncomputable def fw96 : Ent :=
  ⟨8, [.agg ⟨[iP 4, iP 28, .slice (some ⟨3, 0, none⟩) 3 3, .slice (some ⟨4, 0, none⟩) 2 2, .bool false, .slice (some ⟨5, 0, none⟩) 1 1, .bool true, .slice none 0 0, .slice (some ⟨6, 0, none⟩) 3 3]⟩, .slice none 0 0, iN 0], 7,
   gC ++ [(3, .cells true 0 [iP 1, iP 2, iP 2, iP 1, iP 1, iP 1, iP 2, iP 2, iP 1]),
    (4, .cells true 0 [iP 1, iP 2, iP 1, iP 1, iP 1, iP 2]),
    (5, .cells true 0 [iP 1, iP 2, iP 2]),
    (6, .cells true 0 [iP 2, iN 0, iP 2, iP 10, iP 0, iP 1, iP 2, iP 6, iP 1, iP 1, iP 1, iP 4])],
   [],
   .tuple ⟨[iP 0, iP 90]⟩⟩
theorem fw96_ok : fw96.okS EE.G = true := by kernel_rfl
theorem fw96_run : evT EE fxT 1000000000 (.call fw96.f fw96.args) fw96.heap (keptK fw96) = some (.bool true) := by kernel_rfl
theorem fw96_h : fw96.holds EE := ent_run envOk fxT_holds _ _ fw96_ok fw96_run
-- decani/founder.Alone, 1422 steps
noncomputable def fw97 : Ent :=
  ⟨11, [.agg ⟨[iP 4, iP 28, .slice (some ⟨3, 0, none⟩) 3 3, .slice (some ⟨4, 0, none⟩) 2 2, .bool false, .slice (some ⟨5, 0, none⟩) 1 1, .bool true, .slice none 0 0, .slice (some ⟨6, 0, none⟩) 3 3]⟩, iN 0], 7,
   gC ++ [(3, .cells true 0 [iP 1, iP 2, iP 2, iP 1, iP 1, iP 1, iP 2, iP 2, iP 1]),
    (4, .cells true 0 [iP 1, iP 2, iP 1, iP 1, iP 1, iP 2]),
    (5, .cells true 0 [iP 1, iP 2, iP 2]),
    (6, .cells true 0 [iP 2, iN 0, iP 2, iP 10, iP 0, iP 1, iP 2, iP 6, iP 1, iP 1, iP 1, iP 4])],
   [],
   .tuple ⟨[iP 0, iP 90]⟩⟩
theorem fw97_ok : fw97.okS EE.G = true := by kernel_rfl
theorem fw97_run : evT EE fxT 1000000000 (.call fw97.f fw97.args) fw97.heap (keptK fw97) = some (.bool true) := by kernel_rfl
theorem fw97_h : fw97.holds EE := ent_run envOk fxT_holds _ _ fw97_ok fw97_run
-- decani/founder.May, 1402 steps
noncomputable def fw98 : Ent :=
  ⟨7, [.agg ⟨[iP 4, iP 28, .slice (some ⟨3, 0, none⟩) 3 3, .slice (some ⟨4, 0, none⟩) 2 2, .bool false, .slice (some ⟨5, 0, none⟩) 1 1, .bool true, .slice none 0 0, .slice (some ⟨6, 0, none⟩) 3 3]⟩, .slice none 0 0], 7,
   gC ++ [(3, .cells true 0 [iP 1, iP 2, iP 2, iP 1, iP 1, iP 1, iP 2, iP 2, iP 1]),
    (4, .cells true 0 [iP 1, iP 2, iP 1, iP 1, iP 1, iP 2]),
    (5, .cells true 0 [iP 1, iP 2, iP 2]),
    (6, .cells true 0 [iP 0, iN 1, iP 2, iP 10, iP 0, iP 1, iP 2, iP 6, iP 1, iP 1, iP 1, iP 4])],
   [],
   .tuple ⟨[.bool false, iP 90]⟩⟩
theorem fw98_ok : fw98.okS EE.G = true := by kernel_rfl
theorem fw98_run : evT EE fxT 1000000000 (.call fw98.f fw98.args) fw98.heap (keptK fw98) = some (.bool true) := by kernel_rfl
theorem fw98_h : fw98.holds EE := ent_run envOk fxT_holds _ _ fw98_ok fw98_run
-- decani/founder.Plan, 1402 steps
noncomputable def fw99 : Ent :=
  ⟨9, [.agg ⟨[iP 4, iP 28, .slice (some ⟨3, 0, none⟩) 3 3, .slice (some ⟨4, 0, none⟩) 2 2, .bool false, .slice (some ⟨5, 0, none⟩) 1 1, .bool true, .slice none 0 0, .slice (some ⟨6, 0, none⟩) 3 3]⟩], 7,
   gC ++ [(3, .cells true 0 [iP 1, iP 2, iP 2, iP 1, iP 1, iP 1, iP 2, iP 2, iP 1]),
    (4, .cells true 0 [iP 1, iP 2, iP 1, iP 1, iP 1, iP 2]),
    (5, .cells true 0 [iP 1, iP 2, iP 2]),
    (6, .cells true 0 [iP 0, iN 1, iP 2, iP 10, iP 0, iP 1, iP 2, iP 6, iP 1, iP 1, iP 1, iP 4])],
   [],
   .tuple ⟨[.slice none 0 0, iP 90]⟩⟩
theorem fw99_ok : fw99.okS EE.G = true := by kernel_rfl
theorem fw99_run : evT EE fxT 1000000000 (.call fw99.f fw99.args) fw99.heap (keptK fw99) = some (.bool true) := by kernel_rfl
theorem fw99_h : fw99.holds EE := ent_run envOk fxT_holds _ _ fw99_ok fw99_run
-- decani/founder.Debt, 1402 steps
noncomputable def fw100 : Ent :=
  ⟨10, [.agg ⟨[iP 4, iP 28, .slice (some ⟨3, 0, none⟩) 3 3, .slice (some ⟨4, 0, none⟩) 2 2, .bool false, .slice (some ⟨5, 0, none⟩) 1 1, .bool true, .slice none 0 0, .slice (some ⟨6, 0, none⟩) 3 3]⟩], 7,
   gC ++ [(3, .cells true 0 [iP 1, iP 2, iP 2, iP 1, iP 1, iP 1, iP 2, iP 2, iP 1]),
    (4, .cells true 0 [iP 1, iP 2, iP 1, iP 1, iP 1, iP 2]),
    (5, .cells true 0 [iP 1, iP 2, iP 2]),
    (6, .cells true 0 [iP 0, iN 1, iP 2, iP 10, iP 0, iP 1, iP 2, iP 6, iP 1, iP 1, iP 1, iP 4])],
   [],
   .tuple ⟨[iP 0, iP 90]⟩⟩
theorem fw100_ok : fw100.okS EE.G = true := by kernel_rfl
theorem fw100_run : evT EE fxT 1000000000 (.call fw100.f fw100.args) fw100.heap (keptK fw100) = some (.bool true) := by kernel_rfl
theorem fw100_h : fw100.holds EE := ent_run envOk fxT_holds _ _ fw100_ok fw100_run
-- decani/founder.First, 1402 steps
noncomputable def fw101 : Ent :=
  ⟨12, [.agg ⟨[iP 4, iP 28, .slice (some ⟨3, 0, none⟩) 3 3, .slice (some ⟨4, 0, none⟩) 2 2, .bool false, .slice (some ⟨5, 0, none⟩) 1 1, .bool true, .slice none 0 0, .slice (some ⟨6, 0, none⟩) 3 3]⟩], 7,
   gC ++ [(3, .cells true 0 [iP 1, iP 2, iP 2, iP 1, iP 1, iP 1, iP 2, iP 2, iP 1]),
    (4, .cells true 0 [iP 1, iP 2, iP 1, iP 1, iP 1, iP 2]),
    (5, .cells true 0 [iP 1, iP 2, iP 2]),
    (6, .cells true 0 [iP 0, iN 1, iP 2, iP 10, iP 0, iP 1, iP 2, iP 6, iP 1, iP 1, iP 1, iP 4])],
   [],
   .tuple ⟨[iP 0, iP 90]⟩⟩
theorem fw101_ok : fw101.okS EE.G = true := by kernel_rfl
theorem fw101_run : evT EE fxT 1000000000 (.call fw101.f fw101.args) fw101.heap (keptK fw101) = some (.bool true) := by kernel_rfl
theorem fw101_h : fw101.holds EE := ent_run envOk fxT_holds _ _ fw101_ok fw101_run
-- decani/founder.Extra, 1402 steps
noncomputable def fw102 : Ent :=
  ⟨13, [.agg ⟨[iP 4, iP 28, .slice (some ⟨3, 0, none⟩) 3 3, .slice (some ⟨4, 0, none⟩) 2 2, .bool false, .slice (some ⟨5, 0, none⟩) 1 1, .bool true, .slice none 0 0, .slice (some ⟨6, 0, none⟩) 3 3]⟩], 7,
   gC ++ [(3, .cells true 0 [iP 1, iP 2, iP 2, iP 1, iP 1, iP 1, iP 2, iP 2, iP 1]),
    (4, .cells true 0 [iP 1, iP 2, iP 1, iP 1, iP 1, iP 2]),
    (5, .cells true 0 [iP 1, iP 2, iP 2]),
    (6, .cells true 0 [iP 0, iN 1, iP 2, iP 10, iP 0, iP 1, iP 2, iP 6, iP 1, iP 1, iP 1, iP 4])],
   [],
   .tuple ⟨[iP 0, iP 90]⟩⟩
theorem fw102_ok : fw102.okS EE.G = true := by kernel_rfl
theorem fw102_run : evT EE fxT 1000000000 (.call fw102.f fw102.args) fw102.heap (keptK fw102) = some (.bool true) := by kernel_rfl
theorem fw102_h : fw102.holds EE := ent_run envOk fxT_holds _ _ fw102_ok fw102_run
-- decani/founder.May, 1384 steps
noncomputable def fw103 : Ent :=
  ⟨7, [.agg ⟨[iP 4, iP 28, .slice (some ⟨3, 0, none⟩) 3 3, .slice (some ⟨4, 0, none⟩) 2 2, .bool false, .slice (some ⟨5, 0, none⟩) 1 1, .bool true, .slice none 0 0, .slice (some ⟨6, 0, none⟩) 3 3]⟩, .slice none 0 0], 7,
   gC ++ [(3, .cells true 0 [iP 1, iP 2, iP 2, iP 1, iP 1, iP 1, iP 2, iP 2, iP 1]),
    (4, .cells true 0 [iP 1, iP 2, iP 1, iP 1, iP 1, iP 2]),
    (5, .cells true 0 [iP 1, iP 2, iP 2]),
    (6, .cells true 0 [iP 2, iN 0, iP 2, iP 10, iP 0, iP 1, iP 2, iP 6, iP 1, iP 1, iP 1, iP 4])],
   [],
   .tuple ⟨[.bool false, iP 90]⟩⟩
theorem fw103_ok : fw103.okS EE.G = true := by kernel_rfl
theorem fw103_run : evT EE fxT 1000000000 (.call fw103.f fw103.args) fw103.heap (keptK fw103) = some (.bool true) := by kernel_rfl
theorem fw103_h : fw103.holds EE := ent_run envOk fxT_holds _ _ fw103_ok fw103_run
-- decani/founder.Plan, 1384 steps
noncomputable def fw104 : Ent :=
  ⟨9, [.agg ⟨[iP 4, iP 28, .slice (some ⟨3, 0, none⟩) 3 3, .slice (some ⟨4, 0, none⟩) 2 2, .bool false, .slice (some ⟨5, 0, none⟩) 1 1, .bool true, .slice none 0 0, .slice (some ⟨6, 0, none⟩) 3 3]⟩], 7,
   gC ++ [(3, .cells true 0 [iP 1, iP 2, iP 2, iP 1, iP 1, iP 1, iP 2, iP 2, iP 1]),
    (4, .cells true 0 [iP 1, iP 2, iP 1, iP 1, iP 1, iP 2]),
    (5, .cells true 0 [iP 1, iP 2, iP 2]),
    (6, .cells true 0 [iP 2, iN 0, iP 2, iP 10, iP 0, iP 1, iP 2, iP 6, iP 1, iP 1, iP 1, iP 4])],
   [],
   .tuple ⟨[.slice none 0 0, iP 90]⟩⟩
theorem fw104_ok : fw104.okS EE.G = true := by kernel_rfl
theorem fw104_run : evT EE fxT 1000000000 (.call fw104.f fw104.args) fw104.heap (keptK fw104) = some (.bool true) := by kernel_rfl
theorem fw104_h : fw104.holds EE := ent_run envOk fxT_holds _ _ fw104_ok fw104_run
-- decani/founder.Debt, 1384 steps
noncomputable def fw105 : Ent :=
  ⟨10, [.agg ⟨[iP 4, iP 28, .slice (some ⟨3, 0, none⟩) 3 3, .slice (some ⟨4, 0, none⟩) 2 2, .bool false, .slice (some ⟨5, 0, none⟩) 1 1, .bool true, .slice none 0 0, .slice (some ⟨6, 0, none⟩) 3 3]⟩], 7,
   gC ++ [(3, .cells true 0 [iP 1, iP 2, iP 2, iP 1, iP 1, iP 1, iP 2, iP 2, iP 1]),
    (4, .cells true 0 [iP 1, iP 2, iP 1, iP 1, iP 1, iP 2]),
    (5, .cells true 0 [iP 1, iP 2, iP 2]),
    (6, .cells true 0 [iP 2, iN 0, iP 2, iP 10, iP 0, iP 1, iP 2, iP 6, iP 1, iP 1, iP 1, iP 4])],
   [],
   .tuple ⟨[iP 0, iP 90]⟩⟩
theorem fw105_ok : fw105.okS EE.G = true := by kernel_rfl
theorem fw105_run : evT EE fxT 1000000000 (.call fw105.f fw105.args) fw105.heap (keptK fw105) = some (.bool true) := by kernel_rfl
theorem fw105_h : fw105.holds EE := ent_run envOk fxT_holds _ _ fw105_ok fw105_run
-- decani/founder.First, 1384 steps
noncomputable def fw106 : Ent :=
  ⟨12, [.agg ⟨[iP 4, iP 28, .slice (some ⟨3, 0, none⟩) 3 3, .slice (some ⟨4, 0, none⟩) 2 2, .bool false, .slice (some ⟨5, 0, none⟩) 1 1, .bool true, .slice none 0 0, .slice (some ⟨6, 0, none⟩) 3 3]⟩], 7,
   gC ++ [(3, .cells true 0 [iP 1, iP 2, iP 2, iP 1, iP 1, iP 1, iP 2, iP 2, iP 1]),
    (4, .cells true 0 [iP 1, iP 2, iP 1, iP 1, iP 1, iP 2]),
    (5, .cells true 0 [iP 1, iP 2, iP 2]),
    (6, .cells true 0 [iP 2, iN 0, iP 2, iP 10, iP 0, iP 1, iP 2, iP 6, iP 1, iP 1, iP 1, iP 4])],
   [],
   .tuple ⟨[iP 0, iP 90]⟩⟩
theorem fw106_ok : fw106.okS EE.G = true := by kernel_rfl
theorem fw106_run : evT EE fxT 1000000000 (.call fw106.f fw106.args) fw106.heap (keptK fw106) = some (.bool true) := by kernel_rfl
theorem fw106_h : fw106.holds EE := ent_run envOk fxT_holds _ _ fw106_ok fw106_run
-- decani/founder.Extra, 1384 steps
noncomputable def fw107 : Ent :=
  ⟨13, [.agg ⟨[iP 4, iP 28, .slice (some ⟨3, 0, none⟩) 3 3, .slice (some ⟨4, 0, none⟩) 2 2, .bool false, .slice (some ⟨5, 0, none⟩) 1 1, .bool true, .slice none 0 0, .slice (some ⟨6, 0, none⟩) 3 3]⟩], 7,
   gC ++ [(3, .cells true 0 [iP 1, iP 2, iP 2, iP 1, iP 1, iP 1, iP 2, iP 2, iP 1]),
    (4, .cells true 0 [iP 1, iP 2, iP 1, iP 1, iP 1, iP 2]),
    (5, .cells true 0 [iP 1, iP 2, iP 2]),
    (6, .cells true 0 [iP 2, iN 0, iP 2, iP 10, iP 0, iP 1, iP 2, iP 6, iP 1, iP 1, iP 1, iP 4])],
   [],
   .tuple ⟨[iP 0, iP 90]⟩⟩
theorem fw107_ok : fw107.okS EE.G = true := by kernel_rfl
theorem fw107_run : evT EE fxT 1000000000 (.call fw107.f fw107.args) fw107.heap (keptK fw107) = some (.bool true) := by kernel_rfl
theorem fw107_h : fw107.holds EE := ent_run envOk fxT_holds _ _ fw107_ok fw107_run
-- decani/founder.Open, 1313 steps
noncomputable def fw108 : Ent :=
  ⟨5, [.agg ⟨[iP 4, iP 28, .slice (some ⟨3, 0, none⟩) 3 3, .slice (some ⟨4, 0, none⟩) 2 2, .bool false, .slice (some ⟨5, 0, none⟩) 1 1, .bool true, .slice none 0 0, .slice none 0 0]⟩, iN 0], 6,
   gC ++ [(3, .cells true 0 [iP 1, iP 2, iP 2, iP 1, iP 1, iP 1, iP 2, iP 2, iP 1]),
    (4, .cells true 0 [iP 1, iP 2, iP 1, iP 1, iP 1, iP 2]),
    (5, .cells true 0 [iP 1, iP 2, iP 2])],
   [],
   .tuple ⟨[.slice none 0 0, iP 90]⟩⟩
theorem fw108_ok : fw108.okS EE.G = true := by kernel_rfl
theorem fw108_run : evT EE fxT 1000000000 (.call fw108.f fw108.args) fw108.heap (keptK fw108) = some (.bool true) := by kernel_rfl
theorem fw108_h : fw108.holds EE := ent_run envOk fxT_holds _ _ fw108_ok fw108_run
-- decani/founder.Whose, 1313 steps
noncomputable def fw109 : Ent :=
  ⟨6, [.agg ⟨[iP 4, iP 28, .slice (some ⟨3, 0, none⟩) 3 3, .slice (some ⟨4, 0, none⟩) 2 2, .bool false, .slice (some ⟨5, 0, none⟩) 1 1, .bool true, .slice none 0 0, .slice none 0 0]⟩, iN 0], 6,
   gC ++ [(3, .cells true 0 [iP 1, iP 2, iP 2, iP 1, iP 1, iP 1, iP 2, iP 2, iP 1]),
    (4, .cells true 0 [iP 1, iP 2, iP 1, iP 1, iP 1, iP 2]),
    (5, .cells true 0 [iP 1, iP 2, iP 2])],
   [],
   .tuple ⟨[.slice none 0 0, iP 90]⟩⟩
theorem fw109_ok : fw109.okS EE.G = true := by kernel_rfl
theorem fw109_run : evT EE fxT 1000000000 (.call fw109.f fw109.args) fw109.heap (keptK fw109) = some (.bool true) := by kernel_rfl
theorem fw109_h : fw109.holds EE := ent_run envOk fxT_holds _ _ fw109_ok fw109_run
-- decani/founder.Owed, 1313 steps
noncomputable def fw110 : Ent :=
  ⟨8, [.agg ⟨[iP 4, iP 28, .slice (some ⟨3, 0, none⟩) 3 3, .slice (some ⟨4, 0, none⟩) 2 2, .bool false, .slice (some ⟨5, 0, none⟩) 1 1, .bool true, .slice none 0 0, .slice none 0 0]⟩, .slice none 0 0, iN 0], 6,
   gC ++ [(3, .cells true 0 [iP 1, iP 2, iP 2, iP 1, iP 1, iP 1, iP 2, iP 2, iP 1]),
    (4, .cells true 0 [iP 1, iP 2, iP 1, iP 1, iP 1, iP 2]),
    (5, .cells true 0 [iP 1, iP 2, iP 2])],
   [],
   .tuple ⟨[iP 0, iP 90]⟩⟩
theorem fw110_ok : fw110.okS EE.G = true := by kernel_rfl
theorem fw110_run : evT EE fxT 1000000000 (.call fw110.f fw110.args) fw110.heap (keptK fw110) = some (.bool true) := by kernel_rfl
theorem fw110_h : fw110.holds EE := ent_run envOk fxT_holds _ _ fw110_ok fw110_run
-- decani/founder.Alone, 1313 steps
noncomputable def fw111 : Ent :=
  ⟨11, [.agg ⟨[iP 4, iP 28, .slice (some ⟨3, 0, none⟩) 3 3, .slice (some ⟨4, 0, none⟩) 2 2, .bool false, .slice (some ⟨5, 0, none⟩) 1 1, .bool true, .slice none 0 0, .slice none 0 0]⟩, iN 0], 6,
   gC ++ [(3, .cells true 0 [iP 1, iP 2, iP 2, iP 1, iP 1, iP 1, iP 2, iP 2, iP 1]),
    (4, .cells true 0 [iP 1, iP 2, iP 1, iP 1, iP 1, iP 2]),
    (5, .cells true 0 [iP 1, iP 2, iP 2])],
   [],
   .tuple ⟨[iP 0, iP 90]⟩⟩
theorem fw111_ok : fw111.okS EE.G = true := by kernel_rfl
theorem fw111_run : evT EE fxT 1000000000 (.call fw111.f fw111.args) fw111.heap (keptK fw111) = some (.bool true) := by kernel_rfl
theorem fw111_h : fw111.holds EE := ent_run envOk fxT_holds _ _ fw111_ok fw111_run
-- decani/founder.Open, 1313 steps
noncomputable def fw112 : Ent :=
  ⟨5, [.agg ⟨[iP 4, iP 28, .slice (some ⟨3, 0, none⟩) 3 3, .slice (some ⟨4, 0, none⟩) 2 2, .bool false, .slice (some ⟨5, 0, none⟩) 1 1, .bool true, .slice none 0 0, .slice (some ⟨6, 0, none⟩) 6 18446744073709551616]⟩, iN 0], 7,
   gC ++ [(3, .cells true 0 [iP 1, iP 2, iP 2, iP 1, iP 1, iP 1, iP 2, iP 2, iP 1]),
    (4, .cells true 0 [iP 1, iP 2, iP 1, iP 1, iP 1, iP 2]),
    (5, .cells true 0 [iP 1, iP 2, iP 2]),
    (6, .cells true 5 [iP 0, iN 0, iP 2, iP 10, iP 0, iP 1, iP 2, iP 6, iP 1, iP 1, iP 1, iP 4, iP 0, iN 0, iP 2, iP 10, iP 0, iP 1, iP 2, iP 6, iP 1, iP 1, iP 1, iP 4])],
   [],
   .tuple ⟨[.slice none 0 0, iP 90]⟩⟩
theorem fw112_ok : fw112.okS EE.G = true := by kernel_rfl
theorem fw112_run : evT EE fxT 1000000000 (.call fw112.f fw112.args) fw112.heap (keptK fw112) = some (.bool true) := by kernel_rfl
theorem fw112_h : fw112.holds EE := ent_run envOk fxT_holds _ _ fw112_ok fw112_run
-- decani/founder.Whose, 1313 steps
noncomputable def fw113 : Ent :=
  ⟨6, [.agg ⟨[iP 4, iP 28, .slice (some ⟨3, 0, none⟩) 3 3, .slice (some ⟨4, 0, none⟩) 2 2, .bool false, .slice (some ⟨5, 0, none⟩) 1 1, .bool true, .slice none 0 0, .slice (some ⟨6, 0, none⟩) 6 18446744073709551616]⟩, iN 0], 7,
   gC ++ [(3, .cells true 0 [iP 1, iP 2, iP 2, iP 1, iP 1, iP 1, iP 2, iP 2, iP 1]),
    (4, .cells true 0 [iP 1, iP 2, iP 1, iP 1, iP 1, iP 2]),
    (5, .cells true 0 [iP 1, iP 2, iP 2]),
    (6, .cells true 5 [iP 0, iN 0, iP 2, iP 10, iP 0, iP 1, iP 2, iP 6, iP 1, iP 1, iP 1, iP 4, iP 0, iN 0, iP 2, iP 10, iP 0, iP 1, iP 2, iP 6, iP 1, iP 1, iP 1, iP 4])],
   [],
   .tuple ⟨[.slice none 0 0, iP 90]⟩⟩
theorem fw113_ok : fw113.okS EE.G = true := by kernel_rfl
theorem fw113_run : evT EE fxT 1000000000 (.call fw113.f fw113.args) fw113.heap (keptK fw113) = some (.bool true) := by kernel_rfl
theorem fw113_h : fw113.holds EE := ent_run envOk fxT_holds _ _ fw113_ok fw113_run
-- decani/founder.Owed, 1313 steps
noncomputable def fw114 : Ent :=
  ⟨8, [.agg ⟨[iP 4, iP 28, .slice (some ⟨3, 0, none⟩) 3 3, .slice (some ⟨4, 0, none⟩) 2 2, .bool false, .slice (some ⟨5, 0, none⟩) 1 1, .bool true, .slice none 0 0, .slice (some ⟨6, 0, none⟩) 6 18446744073709551616]⟩, .slice none 0 0, iN 0], 7,
   gC ++ [(3, .cells true 0 [iP 1, iP 2, iP 2, iP 1, iP 1, iP 1, iP 2, iP 2, iP 1]),
    (4, .cells true 0 [iP 1, iP 2, iP 1, iP 1, iP 1, iP 2]),
    (5, .cells true 0 [iP 1, iP 2, iP 2]),
    (6, .cells true 5 [iP 0, iN 0, iP 2, iP 10, iP 0, iP 1, iP 2, iP 6, iP 1, iP 1, iP 1, iP 4, iP 0, iN 0, iP 2, iP 10, iP 0, iP 1, iP 2, iP 6, iP 1, iP 1, iP 1, iP 4])],
   [],
   .tuple ⟨[iP 0, iP 90]⟩⟩
theorem fw114_ok : fw114.okS EE.G = true := by kernel_rfl
theorem fw114_run : evT EE fxT 1000000000 (.call fw114.f fw114.args) fw114.heap (keptK fw114) = some (.bool true) := by kernel_rfl
theorem fw114_h : fw114.holds EE := ent_run envOk fxT_holds _ _ fw114_ok fw114_run
-- decani/founder.Alone, 1313 steps
noncomputable def fw115 : Ent :=
  ⟨11, [.agg ⟨[iP 4, iP 28, .slice (some ⟨3, 0, none⟩) 3 3, .slice (some ⟨4, 0, none⟩) 2 2, .bool false, .slice (some ⟨5, 0, none⟩) 1 1, .bool true, .slice none 0 0, .slice (some ⟨6, 0, none⟩) 6 18446744073709551616]⟩, iN 0], 7,
   gC ++ [(3, .cells true 0 [iP 1, iP 2, iP 2, iP 1, iP 1, iP 1, iP 2, iP 2, iP 1]),
    (4, .cells true 0 [iP 1, iP 2, iP 1, iP 1, iP 1, iP 2]),
    (5, .cells true 0 [iP 1, iP 2, iP 2]),
    (6, .cells true 5 [iP 0, iN 0, iP 2, iP 10, iP 0, iP 1, iP 2, iP 6, iP 1, iP 1, iP 1, iP 4, iP 0, iN 0, iP 2, iP 10, iP 0, iP 1, iP 2, iP 6, iP 1, iP 1, iP 1, iP 4])],
   [],
   .tuple ⟨[iP 0, iP 90]⟩⟩
theorem fw115_ok : fw115.okS EE.G = true := by kernel_rfl
theorem fw115_run : evT EE fxT 1000000000 (.call fw115.f fw115.args) fw115.heap (keptK fw115) = some (.bool true) := by kernel_rfl
theorem fw115_h : fw115.holds EE := ent_run envOk fxT_holds _ _ fw115_ok fw115_run
-- decani/founder.May, 1275 steps
noncomputable def fw116 : Ent :=
  ⟨7, [.agg ⟨[iP 4, iP 28, .slice (some ⟨3, 0, none⟩) 3 3, .slice (some ⟨4, 0, none⟩) 2 2, .bool false, .slice (some ⟨5, 0, none⟩) 1 1, .bool true, .slice none 0 0, .slice none 0 0]⟩, .slice none 0 0], 6,
   gC ++ [(3, .cells true 0 [iP 1, iP 2, iP 2, iP 1, iP 1, iP 1, iP 2, iP 2, iP 1]),
    (4, .cells true 0 [iP 1, iP 2, iP 1, iP 1, iP 1, iP 2]),
    (5, .cells true 0 [iP 1, iP 2, iP 2])],
   [],
   .tuple ⟨[.bool false, iP 90]⟩⟩
theorem fw116_ok : fw116.okS EE.G = true := by kernel_rfl
theorem fw116_run : evT EE fxT 1000000000 (.call fw116.f fw116.args) fw116.heap (keptK fw116) = some (.bool true) := by kernel_rfl
theorem fw116_h : fw116.holds EE := ent_run envOk fxT_holds _ _ fw116_ok fw116_run
-- decani/founder.Plan, 1275 steps
noncomputable def fw117 : Ent :=
  ⟨9, [.agg ⟨[iP 4, iP 28, .slice (some ⟨3, 0, none⟩) 3 3, .slice (some ⟨4, 0, none⟩) 2 2, .bool false, .slice (some ⟨5, 0, none⟩) 1 1, .bool true, .slice none 0 0, .slice none 0 0]⟩], 6,
   gC ++ [(3, .cells true 0 [iP 1, iP 2, iP 2, iP 1, iP 1, iP 1, iP 2, iP 2, iP 1]),
    (4, .cells true 0 [iP 1, iP 2, iP 1, iP 1, iP 1, iP 2]),
    (5, .cells true 0 [iP 1, iP 2, iP 2])],
   [],
   .tuple ⟨[.slice none 0 0, iP 90]⟩⟩
theorem fw117_ok : fw117.okS EE.G = true := by kernel_rfl
theorem fw117_run : evT EE fxT 1000000000 (.call fw117.f fw117.args) fw117.heap (keptK fw117) = some (.bool true) := by kernel_rfl
theorem fw117_h : fw117.holds EE := ent_run envOk fxT_holds _ _ fw117_ok fw117_run
-- decani/founder.Debt, 1275 steps
noncomputable def fw118 : Ent :=
  ⟨10, [.agg ⟨[iP 4, iP 28, .slice (some ⟨3, 0, none⟩) 3 3, .slice (some ⟨4, 0, none⟩) 2 2, .bool false, .slice (some ⟨5, 0, none⟩) 1 1, .bool true, .slice none 0 0, .slice none 0 0]⟩], 6,
   gC ++ [(3, .cells true 0 [iP 1, iP 2, iP 2, iP 1, iP 1, iP 1, iP 2, iP 2, iP 1]),
    (4, .cells true 0 [iP 1, iP 2, iP 1, iP 1, iP 1, iP 2]),
    (5, .cells true 0 [iP 1, iP 2, iP 2])],
   [],
   .tuple ⟨[iP 0, iP 90]⟩⟩
theorem fw118_ok : fw118.okS EE.G = true := by kernel_rfl
theorem fw118_run : evT EE fxT 1000000000 (.call fw118.f fw118.args) fw118.heap (keptK fw118) = some (.bool true) := by kernel_rfl
theorem fw118_h : fw118.holds EE := ent_run envOk fxT_holds _ _ fw118_ok fw118_run
-- decani/founder.First, 1275 steps
noncomputable def fw119 : Ent :=
  ⟨12, [.agg ⟨[iP 4, iP 28, .slice (some ⟨3, 0, none⟩) 3 3, .slice (some ⟨4, 0, none⟩) 2 2, .bool false, .slice (some ⟨5, 0, none⟩) 1 1, .bool true, .slice none 0 0, .slice none 0 0]⟩], 6,
   gC ++ [(3, .cells true 0 [iP 1, iP 2, iP 2, iP 1, iP 1, iP 1, iP 2, iP 2, iP 1]),
    (4, .cells true 0 [iP 1, iP 2, iP 1, iP 1, iP 1, iP 2]),
    (5, .cells true 0 [iP 1, iP 2, iP 2])],
   [],
   .tuple ⟨[iP 0, iP 90]⟩⟩
theorem fw119_ok : fw119.okS EE.G = true := by kernel_rfl
theorem fw119_run : evT EE fxT 1000000000 (.call fw119.f fw119.args) fw119.heap (keptK fw119) = some (.bool true) := by kernel_rfl
theorem fw119_h : fw119.holds EE := ent_run envOk fxT_holds _ _ fw119_ok fw119_run
-- decani/founder.Extra, 1275 steps
noncomputable def fw120 : Ent :=
  ⟨13, [.agg ⟨[iP 4, iP 28, .slice (some ⟨3, 0, none⟩) 3 3, .slice (some ⟨4, 0, none⟩) 2 2, .bool false, .slice (some ⟨5, 0, none⟩) 1 1, .bool true, .slice none 0 0, .slice none 0 0]⟩], 6,
   gC ++ [(3, .cells true 0 [iP 1, iP 2, iP 2, iP 1, iP 1, iP 1, iP 2, iP 2, iP 1]),
    (4, .cells true 0 [iP 1, iP 2, iP 1, iP 1, iP 1, iP 2]),
    (5, .cells true 0 [iP 1, iP 2, iP 2])],
   [],
   .tuple ⟨[iP 0, iP 90]⟩⟩
theorem fw120_ok : fw120.okS EE.G = true := by kernel_rfl
theorem fw120_run : evT EE fxT 1000000000 (.call fw120.f fw120.args) fw120.heap (keptK fw120) = some (.bool true) := by kernel_rfl
theorem fw120_h : fw120.holds EE := ent_run envOk fxT_holds _ _ fw120_ok fw120_run
-- decani/founder.May, 1275 steps
noncomputable def fw121 : Ent :=
  ⟨7, [.agg ⟨[iP 4, iP 28, .slice (some ⟨3, 0, none⟩) 3 3, .slice (some ⟨4, 0, none⟩) 2 2, .bool false, .slice (some ⟨5, 0, none⟩) 1 1, .bool true, .slice none 0 0, .slice (some ⟨6, 0, none⟩) 6 18446744073709551616]⟩, .slice none 0 0], 7,
   gC ++ [(3, .cells true 0 [iP 1, iP 2, iP 2, iP 1, iP 1, iP 1, iP 2, iP 2, iP 1]),
    (4, .cells true 0 [iP 1, iP 2, iP 1, iP 1, iP 1, iP 2]),
    (5, .cells true 0 [iP 1, iP 2, iP 2]),
    (6, .cells true 5 [iP 0, iN 0, iP 2, iP 10, iP 0, iP 1, iP 2, iP 6, iP 1, iP 1, iP 1, iP 4, iP 0, iN 0, iP 2, iP 10, iP 0, iP 1, iP 2, iP 6, iP 1, iP 1, iP 1, iP 4])],
   [],
   .tuple ⟨[.bool false, iP 90]⟩⟩
theorem fw121_ok : fw121.okS EE.G = true := by kernel_rfl
theorem fw121_run : evT EE fxT 1000000000 (.call fw121.f fw121.args) fw121.heap (keptK fw121) = some (.bool true) := by kernel_rfl
theorem fw121_h : fw121.holds EE := ent_run envOk fxT_holds _ _ fw121_ok fw121_run
-- decani/founder.Plan, 1275 steps
noncomputable def fw122 : Ent :=
  ⟨9, [.agg ⟨[iP 4, iP 28, .slice (some ⟨3, 0, none⟩) 3 3, .slice (some ⟨4, 0, none⟩) 2 2, .bool false, .slice (some ⟨5, 0, none⟩) 1 1, .bool true, .slice none 0 0, .slice (some ⟨6, 0, none⟩) 6 18446744073709551616]⟩], 7,
   gC ++ [(3, .cells true 0 [iP 1, iP 2, iP 2, iP 1, iP 1, iP 1, iP 2, iP 2, iP 1]),
    (4, .cells true 0 [iP 1, iP 2, iP 1, iP 1, iP 1, iP 2]),
    (5, .cells true 0 [iP 1, iP 2, iP 2]),
    (6, .cells true 5 [iP 0, iN 0, iP 2, iP 10, iP 0, iP 1, iP 2, iP 6, iP 1, iP 1, iP 1, iP 4, iP 0, iN 0, iP 2, iP 10, iP 0, iP 1, iP 2, iP 6, iP 1, iP 1, iP 1, iP 4])],
   [],
   .tuple ⟨[.slice none 0 0, iP 90]⟩⟩
theorem fw122_ok : fw122.okS EE.G = true := by kernel_rfl
theorem fw122_run : evT EE fxT 1000000000 (.call fw122.f fw122.args) fw122.heap (keptK fw122) = some (.bool true) := by kernel_rfl
theorem fw122_h : fw122.holds EE := ent_run envOk fxT_holds _ _ fw122_ok fw122_run
-- decani/founder.Debt, 1275 steps
noncomputable def fw123 : Ent :=
  ⟨10, [.agg ⟨[iP 4, iP 28, .slice (some ⟨3, 0, none⟩) 3 3, .slice (some ⟨4, 0, none⟩) 2 2, .bool false, .slice (some ⟨5, 0, none⟩) 1 1, .bool true, .slice none 0 0, .slice (some ⟨6, 0, none⟩) 6 18446744073709551616]⟩], 7,
   gC ++ [(3, .cells true 0 [iP 1, iP 2, iP 2, iP 1, iP 1, iP 1, iP 2, iP 2, iP 1]),
    (4, .cells true 0 [iP 1, iP 2, iP 1, iP 1, iP 1, iP 2]),
    (5, .cells true 0 [iP 1, iP 2, iP 2]),
    (6, .cells true 5 [iP 0, iN 0, iP 2, iP 10, iP 0, iP 1, iP 2, iP 6, iP 1, iP 1, iP 1, iP 4, iP 0, iN 0, iP 2, iP 10, iP 0, iP 1, iP 2, iP 6, iP 1, iP 1, iP 1, iP 4])],
   [],
   .tuple ⟨[iP 0, iP 90]⟩⟩
theorem fw123_ok : fw123.okS EE.G = true := by kernel_rfl
theorem fw123_run : evT EE fxT 1000000000 (.call fw123.f fw123.args) fw123.heap (keptK fw123) = some (.bool true) := by kernel_rfl
theorem fw123_h : fw123.holds EE := ent_run envOk fxT_holds _ _ fw123_ok fw123_run
-- decani/founder.First, 1275 steps
noncomputable def fw124 : Ent :=
  ⟨12, [.agg ⟨[iP 4, iP 28, .slice (some ⟨3, 0, none⟩) 3 3, .slice (some ⟨4, 0, none⟩) 2 2, .bool false, .slice (some ⟨5, 0, none⟩) 1 1, .bool true, .slice none 0 0, .slice (some ⟨6, 0, none⟩) 6 18446744073709551616]⟩], 7,
   gC ++ [(3, .cells true 0 [iP 1, iP 2, iP 2, iP 1, iP 1, iP 1, iP 2, iP 2, iP 1]),
    (4, .cells true 0 [iP 1, iP 2, iP 1, iP 1, iP 1, iP 2]),
    (5, .cells true 0 [iP 1, iP 2, iP 2]),
    (6, .cells true 5 [iP 0, iN 0, iP 2, iP 10, iP 0, iP 1, iP 2, iP 6, iP 1, iP 1, iP 1, iP 4, iP 0, iN 0, iP 2, iP 10, iP 0, iP 1, iP 2, iP 6, iP 1, iP 1, iP 1, iP 4])],
   [],
   .tuple ⟨[iP 0, iP 90]⟩⟩
theorem fw124_ok : fw124.okS EE.G = true := by kernel_rfl
theorem fw124_run : evT EE fxT 1000000000 (.call fw124.f fw124.args) fw124.heap (keptK fw124) = some (.bool true) := by kernel_rfl
theorem fw124_h : fw124.holds EE := ent_run envOk fxT_holds _ _ fw124_ok fw124_run
-- decani/founder.Extra, 1275 steps
noncomputable def fw125 : Ent :=
  ⟨13, [.agg ⟨[iP 4, iP 28, .slice (some ⟨3, 0, none⟩) 3 3, .slice (some ⟨4, 0, none⟩) 2 2, .bool false, .slice (some ⟨5, 0, none⟩) 1 1, .bool true, .slice none 0 0, .slice (some ⟨6, 0, none⟩) 6 18446744073709551616]⟩], 7,
   gC ++ [(3, .cells true 0 [iP 1, iP 2, iP 2, iP 1, iP 1, iP 1, iP 2, iP 2, iP 1]),
    (4, .cells true 0 [iP 1, iP 2, iP 1, iP 1, iP 1, iP 2]),
    (5, .cells true 0 [iP 1, iP 2, iP 2]),
    (6, .cells true 5 [iP 0, iN 0, iP 2, iP 10, iP 0, iP 1, iP 2, iP 6, iP 1, iP 1, iP 1, iP 4, iP 0, iN 0, iP 2, iP 10, iP 0, iP 1, iP 2, iP 6, iP 1, iP 1, iP 1, iP 4])],
   [],
   .tuple ⟨[iP 0, iP 90]⟩⟩
theorem fw125_ok : fw125.okS EE.G = true := by kernel_rfl
theorem fw125_run : evT EE fxT 1000000000 (.call fw125.f fw125.args) fw125.heap (keptK fw125) = some (.bool true) := by kernel_rfl
theorem fw125_h : fw125.holds EE := ent_run envOk fxT_holds _ _ fw125_ok fw125_run
-- decani/founder.Open, 206 steps
noncomputable def fw126 : Ent :=
  ⟨5, [.agg ⟨[iP 0, iP 0, .slice none 0 0, .slice none 0 0, .bool false, .slice none 0 0, .bool false, .slice none 0 0, .slice none 0 0]⟩, iN 0], 3,
   gC,
   [],
   .tuple ⟨[.slice none 0 0, iP 90]⟩⟩
theorem fw126_ok : fw126.okS EE.G = true := by kernel_rfl
theorem fw126_run : evT EE fxT 1000000000 (.call fw126.f fw126.args) fw126.heap (keptK fw126) = some (.bool true) := by kernel_rfl
theorem fw126_h : fw126.holds EE := ent_run envOk fxT_holds _ _ fw126_ok fw126_run
-- decani/founder.Whose, 206 steps
noncomputable def fw127 : Ent :=
  ⟨6, [.agg ⟨[iP 0, iP 0, .slice none 0 0, .slice none 0 0, .bool false, .slice none 0 0, .bool false, .slice none 0 0, .slice none 0 0]⟩, iN 0], 3,
   gC,
   [],
   .tuple ⟨[.slice none 0 0, iP 90]⟩⟩
theorem fw127_ok : fw127.okS EE.G = true := by kernel_rfl
theorem fw127_run : evT EE fxT 1000000000 (.call fw127.f fw127.args) fw127.heap (keptK fw127) = some (.bool true) := by kernel_rfl
theorem fw127_h : fw127.holds EE := ent_run envOk fxT_holds _ _ fw127_ok fw127_run
-- decani/founder.Owed, 206 steps
noncomputable def fw128 : Ent :=
  ⟨8, [.agg ⟨[iP 0, iP 0, .slice none 0 0, .slice none 0 0, .bool false, .slice none 0 0, .bool false, .slice none 0 0, .slice none 0 0]⟩, .slice none 0 0, iN 0], 3,
   gC,
   [],
   .tuple ⟨[iP 0, iP 90]⟩⟩
theorem fw128_ok : fw128.okS EE.G = true := by kernel_rfl
theorem fw128_run : evT EE fxT 1000000000 (.call fw128.f fw128.args) fw128.heap (keptK fw128) = some (.bool true) := by kernel_rfl
theorem fw128_h : fw128.holds EE := ent_run envOk fxT_holds _ _ fw128_ok fw128_run
-- decani/founder.Alone, 206 steps
noncomputable def fw129 : Ent :=
  ⟨11, [.agg ⟨[iP 0, iP 0, .slice none 0 0, .slice none 0 0, .bool false, .slice none 0 0, .bool false, .slice none 0 0, .slice none 0 0]⟩, iN 0], 3,
   gC,
   [],
   .tuple ⟨[iP 0, iP 90]⟩⟩
theorem fw129_ok : fw129.okS EE.G = true := by kernel_rfl
theorem fw129_run : evT EE fxT 1000000000 (.call fw129.f fw129.args) fw129.heap (keptK fw129) = some (.bool true) := by kernel_rfl
theorem fw129_h : fw129.holds EE := ent_run envOk fxT_holds _ _ fw129_ok fw129_run
-- decani/founder.Open, 206 steps
noncomputable def fw130 : Ent :=
  ⟨5, [.agg ⟨[iP 7, iP 28, .slice (some ⟨3, 0, none⟩) 3 3, .slice (some ⟨4, 0, none⟩) 2 2, .bool false, .slice (some ⟨5, 0, none⟩) 1 1, .bool true, .slice none 0 0, .slice (some ⟨6, 0, none⟩) 3 3]⟩, iN 0], 7,
   gC ++ [(3, .cells true 0 [iP 1, iP 2, iP 2, iP 1, iP 1, iP 1, iP 2, iP 2, iP 1]),
    (4, .cells true 0 [iP 1, iP 2, iP 1, iP 1, iP 1, iP 2]),
    (5, .cells true 0 [iP 1, iP 2, iP 2]),
    (6, .cells true 0 [iP 0, iN 0, iP 2, iP 10, iP 0, iP 1, iP 2, iP 6, iP 1, iP 1, iP 1, iP 4])],
   [],
   .tuple ⟨[.slice none 0 0, iP 90]⟩⟩
theorem fw130_ok : fw130.okS EE.G = true := by kernel_rfl
theorem fw130_run : evT EE fxT 1000000000 (.call fw130.f fw130.args) fw130.heap (keptK fw130) = some (.bool true) := by kernel_rfl
theorem fw130_h : fw130.holds EE := ent_run envOk fxT_holds _ _ fw130_ok fw130_run
-- decani/founder.Whose, 206 steps
noncomputable def fw131 : Ent :=
  ⟨6, [.agg ⟨[iP 7, iP 28, .slice (some ⟨3, 0, none⟩) 3 3, .slice (some ⟨4, 0, none⟩) 2 2, .bool false, .slice (some ⟨5, 0, none⟩) 1 1, .bool true, .slice none 0 0, .slice (some ⟨6, 0, none⟩) 3 3]⟩, iN 0], 7,
   gC ++ [(3, .cells true 0 [iP 1, iP 2, iP 2, iP 1, iP 1, iP 1, iP 2, iP 2, iP 1]),
    (4, .cells true 0 [iP 1, iP 2, iP 1, iP 1, iP 1, iP 2]),
    (5, .cells true 0 [iP 1, iP 2, iP 2]),
    (6, .cells true 0 [iP 0, iN 0, iP 2, iP 10, iP 0, iP 1, iP 2, iP 6, iP 1, iP 1, iP 1, iP 4])],
   [],
   .tuple ⟨[.slice none 0 0, iP 90]⟩⟩
theorem fw131_ok : fw131.okS EE.G = true := by kernel_rfl
theorem fw131_run : evT EE fxT 1000000000 (.call fw131.f fw131.args) fw131.heap (keptK fw131) = some (.bool true) := by kernel_rfl
theorem fw131_h : fw131.holds EE := ent_run envOk fxT_holds _ _ fw131_ok fw131_run
-- decani/founder.Owed, 206 steps
noncomputable def fw132 : Ent :=
  ⟨8, [.agg ⟨[iP 7, iP 28, .slice (some ⟨3, 0, none⟩) 3 3, .slice (some ⟨4, 0, none⟩) 2 2, .bool false, .slice (some ⟨5, 0, none⟩) 1 1, .bool true, .slice none 0 0, .slice (some ⟨6, 0, none⟩) 3 3]⟩, .slice none 0 0, iN 0], 7,
   gC ++ [(3, .cells true 0 [iP 1, iP 2, iP 2, iP 1, iP 1, iP 1, iP 2, iP 2, iP 1]),
    (4, .cells true 0 [iP 1, iP 2, iP 1, iP 1, iP 1, iP 2]),
    (5, .cells true 0 [iP 1, iP 2, iP 2]),
    (6, .cells true 0 [iP 0, iN 0, iP 2, iP 10, iP 0, iP 1, iP 2, iP 6, iP 1, iP 1, iP 1, iP 4])],
   [],
   .tuple ⟨[iP 0, iP 90]⟩⟩
theorem fw132_ok : fw132.okS EE.G = true := by kernel_rfl
theorem fw132_run : evT EE fxT 1000000000 (.call fw132.f fw132.args) fw132.heap (keptK fw132) = some (.bool true) := by kernel_rfl
theorem fw132_h : fw132.holds EE := ent_run envOk fxT_holds _ _ fw132_ok fw132_run
-- decani/founder.Alone, 206 steps
noncomputable def fw133 : Ent :=
  ⟨11, [.agg ⟨[iP 7, iP 28, .slice (some ⟨3, 0, none⟩) 3 3, .slice (some ⟨4, 0, none⟩) 2 2, .bool false, .slice (some ⟨5, 0, none⟩) 1 1, .bool true, .slice none 0 0, .slice (some ⟨6, 0, none⟩) 3 3]⟩, iN 0], 7,
   gC ++ [(3, .cells true 0 [iP 1, iP 2, iP 2, iP 1, iP 1, iP 1, iP 2, iP 2, iP 1]),
    (4, .cells true 0 [iP 1, iP 2, iP 1, iP 1, iP 1, iP 2]),
    (5, .cells true 0 [iP 1, iP 2, iP 2]),
    (6, .cells true 0 [iP 0, iN 0, iP 2, iP 10, iP 0, iP 1, iP 2, iP 6, iP 1, iP 1, iP 1, iP 4])],
   [],
   .tuple ⟨[iP 0, iP 90]⟩⟩
theorem fw133_ok : fw133.okS EE.G = true := by kernel_rfl
theorem fw133_run : evT EE fxT 1000000000 (.call fw133.f fw133.args) fw133.heap (keptK fw133) = some (.bool true) := by kernel_rfl
theorem fw133_h : fw133.holds EE := ent_run envOk fxT_holds _ _ fw133_ok fw133_run
-- decani/founder.May, 168 steps
noncomputable def fw134 : Ent :=
  ⟨7, [.agg ⟨[iP 0, iP 0, .slice none 0 0, .slice none 0 0, .bool false, .slice none 0 0, .bool false, .slice none 0 0, .slice none 0 0]⟩, .slice none 0 0], 3,
   gC,
   [],
   .tuple ⟨[.bool false, iP 90]⟩⟩
theorem fw134_ok : fw134.okS EE.G = true := by kernel_rfl
theorem fw134_run : evT EE fxT 1000000000 (.call fw134.f fw134.args) fw134.heap (keptK fw134) = some (.bool true) := by kernel_rfl
theorem fw134_h : fw134.holds EE := ent_run envOk fxT_holds _ _ fw134_ok fw134_run
-- decani/founder.Plan, 168 steps
noncomputable def fw135 : Ent :=
  ⟨9, [.agg ⟨[iP 0, iP 0, .slice none 0 0, .slice none 0 0, .bool false, .slice none 0 0, .bool false, .slice none 0 0, .slice none 0 0]⟩], 3,
   gC,
   [],
   .tuple ⟨[.slice none 0 0, iP 90]⟩⟩
theorem fw135_ok : fw135.okS EE.G = true := by kernel_rfl
theorem fw135_run : evT EE fxT 1000000000 (.call fw135.f fw135.args) fw135.heap (keptK fw135) = some (.bool true) := by kernel_rfl
theorem fw135_h : fw135.holds EE := ent_run envOk fxT_holds _ _ fw135_ok fw135_run
-- decani/founder.Debt, 168 steps
noncomputable def fw136 : Ent :=
  ⟨10, [.agg ⟨[iP 0, iP 0, .slice none 0 0, .slice none 0 0, .bool false, .slice none 0 0, .bool false, .slice none 0 0, .slice none 0 0]⟩], 3,
   gC,
   [],
   .tuple ⟨[iP 0, iP 90]⟩⟩
theorem fw136_ok : fw136.okS EE.G = true := by kernel_rfl
theorem fw136_run : evT EE fxT 1000000000 (.call fw136.f fw136.args) fw136.heap (keptK fw136) = some (.bool true) := by kernel_rfl
theorem fw136_h : fw136.holds EE := ent_run envOk fxT_holds _ _ fw136_ok fw136_run
-- decani/founder.First, 168 steps
noncomputable def fw137 : Ent :=
  ⟨12, [.agg ⟨[iP 0, iP 0, .slice none 0 0, .slice none 0 0, .bool false, .slice none 0 0, .bool false, .slice none 0 0, .slice none 0 0]⟩], 3,
   gC,
   [],
   .tuple ⟨[iP 0, iP 90]⟩⟩
theorem fw137_ok : fw137.okS EE.G = true := by kernel_rfl
theorem fw137_run : evT EE fxT 1000000000 (.call fw137.f fw137.args) fw137.heap (keptK fw137) = some (.bool true) := by kernel_rfl
theorem fw137_h : fw137.holds EE := ent_run envOk fxT_holds _ _ fw137_ok fw137_run
-- decani/founder.Extra, 168 steps
noncomputable def fw138 : Ent :=
  ⟨13, [.agg ⟨[iP 0, iP 0, .slice none 0 0, .slice none 0 0, .bool false, .slice none 0 0, .bool false, .slice none 0 0, .slice none 0 0]⟩], 3,
   gC,
   [],
   .tuple ⟨[iP 0, iP 90]⟩⟩
theorem fw138_ok : fw138.okS EE.G = true := by kernel_rfl
theorem fw138_run : evT EE fxT 1000000000 (.call fw138.f fw138.args) fw138.heap (keptK fw138) = some (.bool true) := by kernel_rfl
theorem fw138_h : fw138.holds EE := ent_run envOk fxT_holds _ _ fw138_ok fw138_run
-- decani/founder.May, 168 steps
noncomputable def fw139 : Ent :=
  ⟨7, [.agg ⟨[iP 7, iP 28, .slice (some ⟨3, 0, none⟩) 3 3, .slice (some ⟨4, 0, none⟩) 2 2, .bool false, .slice (some ⟨5, 0, none⟩) 1 1, .bool true, .slice none 0 0, .slice (some ⟨6, 0, none⟩) 3 3]⟩, .slice none 0 0], 7,
   gC ++ [(3, .cells true 0 [iP 1, iP 2, iP 2, iP 1, iP 1, iP 1, iP 2, iP 2, iP 1]),
    (4, .cells true 0 [iP 1, iP 2, iP 1, iP 1, iP 1, iP 2]),
    (5, .cells true 0 [iP 1, iP 2, iP 2]),
    (6, .cells true 0 [iP 0, iN 0, iP 2, iP 10, iP 0, iP 1, iP 2, iP 6, iP 1, iP 1, iP 1, iP 4])],
   [],
   .tuple ⟨[.bool false, iP 90]⟩⟩
theorem fw139_ok : fw139.okS EE.G = true := by kernel_rfl
theorem fw139_run : evT EE fxT 1000000000 (.call fw139.f fw139.args) fw139.heap (keptK fw139) = some (.bool true) := by kernel_rfl
theorem fw139_h : fw139.holds EE := ent_run envOk fxT_holds _ _ fw139_ok fw139_run
-- decani/founder.Plan, 168 steps
noncomputable def fw140 : Ent :=
  ⟨9, [.agg ⟨[iP 7, iP 28, .slice (some ⟨3, 0, none⟩) 3 3, .slice (some ⟨4, 0, none⟩) 2 2, .bool false, .slice (some ⟨5, 0, none⟩) 1 1, .bool true, .slice none 0 0, .slice (some ⟨6, 0, none⟩) 3 3]⟩], 7,
   gC ++ [(3, .cells true 0 [iP 1, iP 2, iP 2, iP 1, iP 1, iP 1, iP 2, iP 2, iP 1]),
    (4, .cells true 0 [iP 1, iP 2, iP 1, iP 1, iP 1, iP 2]),
    (5, .cells true 0 [iP 1, iP 2, iP 2]),
    (6, .cells true 0 [iP 0, iN 0, iP 2, iP 10, iP 0, iP 1, iP 2, iP 6, iP 1, iP 1, iP 1, iP 4])],
   [],
   .tuple ⟨[.slice none 0 0, iP 90]⟩⟩
theorem fw140_ok : fw140.okS EE.G = true := by kernel_rfl
theorem fw140_run : evT EE fxT 1000000000 (.call fw140.f fw140.args) fw140.heap (keptK fw140) = some (.bool true) := by kernel_rfl
theorem fw140_h : fw140.holds EE := ent_run envOk fxT_holds _ _ fw140_ok fw140_run
-- decani/founder.Debt, 168 steps
noncomputable def fw141 : Ent :=
  ⟨10, [.agg ⟨[iP 7, iP 28, .slice (some ⟨3, 0, none⟩) 3 3, .slice (some ⟨4, 0, none⟩) 2 2, .bool false, .slice (some ⟨5, 0, none⟩) 1 1, .bool true, .slice none 0 0, .slice (some ⟨6, 0, none⟩) 3 3]⟩], 7,
   gC ++ [(3, .cells true 0 [iP 1, iP 2, iP 2, iP 1, iP 1, iP 1, iP 2, iP 2, iP 1]),
    (4, .cells true 0 [iP 1, iP 2, iP 1, iP 1, iP 1, iP 2]),
    (5, .cells true 0 [iP 1, iP 2, iP 2]),
    (6, .cells true 0 [iP 0, iN 0, iP 2, iP 10, iP 0, iP 1, iP 2, iP 6, iP 1, iP 1, iP 1, iP 4])],
   [],
   .tuple ⟨[iP 0, iP 90]⟩⟩
theorem fw141_ok : fw141.okS EE.G = true := by kernel_rfl
theorem fw141_run : evT EE fxT 1000000000 (.call fw141.f fw141.args) fw141.heap (keptK fw141) = some (.bool true) := by kernel_rfl
theorem fw141_h : fw141.holds EE := ent_run envOk fxT_holds _ _ fw141_ok fw141_run
-- decani/founder.First, 168 steps
noncomputable def fw142 : Ent :=
  ⟨12, [.agg ⟨[iP 7, iP 28, .slice (some ⟨3, 0, none⟩) 3 3, .slice (some ⟨4, 0, none⟩) 2 2, .bool false, .slice (some ⟨5, 0, none⟩) 1 1, .bool true, .slice none 0 0, .slice (some ⟨6, 0, none⟩) 3 3]⟩], 7,
   gC ++ [(3, .cells true 0 [iP 1, iP 2, iP 2, iP 1, iP 1, iP 1, iP 2, iP 2, iP 1]),
    (4, .cells true 0 [iP 1, iP 2, iP 1, iP 1, iP 1, iP 2]),
    (5, .cells true 0 [iP 1, iP 2, iP 2]),
    (6, .cells true 0 [iP 0, iN 0, iP 2, iP 10, iP 0, iP 1, iP 2, iP 6, iP 1, iP 1, iP 1, iP 4])],
   [],
   .tuple ⟨[iP 0, iP 90]⟩⟩
theorem fw142_ok : fw142.okS EE.G = true := by kernel_rfl
theorem fw142_run : evT EE fxT 1000000000 (.call fw142.f fw142.args) fw142.heap (keptK fw142) = some (.bool true) := by kernel_rfl
theorem fw142_h : fw142.holds EE := ent_run envOk fxT_holds _ _ fw142_ok fw142_run
-- decani/founder.Extra, 168 steps
noncomputable def fw143 : Ent :=
  ⟨13, [.agg ⟨[iP 7, iP 28, .slice (some ⟨3, 0, none⟩) 3 3, .slice (some ⟨4, 0, none⟩) 2 2, .bool false, .slice (some ⟨5, 0, none⟩) 1 1, .bool true, .slice none 0 0, .slice (some ⟨6, 0, none⟩) 3 3]⟩], 7,
   gC ++ [(3, .cells true 0 [iP 1, iP 2, iP 2, iP 1, iP 1, iP 1, iP 2, iP 2, iP 1]),
    (4, .cells true 0 [iP 1, iP 2, iP 1, iP 1, iP 1, iP 2]),
    (5, .cells true 0 [iP 1, iP 2, iP 2]),
    (6, .cells true 0 [iP 0, iN 0, iP 2, iP 10, iP 0, iP 1, iP 2, iP 6, iP 1, iP 1, iP 1, iP 4])],
   [],
   .tuple ⟨[iP 0, iP 90]⟩⟩
theorem fw143_ok : fw143.okS EE.G = true := by kernel_rfl
theorem fw143_run : evT EE fxT 1000000000 (.call fw143.f fw143.args) fw143.heap (keptK fw143) = some (.bool true) := by kernel_rfl
theorem fw143_h : fw143.holds EE := ent_run envOk fxT_holds _ _ fw143_ok fw143_run
end Go.Proofs.YtlnbhokokhecdaaGreatDoor
