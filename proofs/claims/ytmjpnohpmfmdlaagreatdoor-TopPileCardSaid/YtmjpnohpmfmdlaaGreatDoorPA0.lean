/- Known calls, part 0: what single calls hand back, at small heaps, by the kernel's own run of the evaluator. No conditions. -/
import Derived.Test.YtmjpnohpmfmdlaaGreatDoorEnv
set_option linter.all false
namespace Go.Proofs.YtmjpnohpmfmdlaaGreatDoor
open Go.Ai
set_option maxRecDepth 1000000
-- decani/office.open, 10242 steps
noncomputable def pa0 : Ent :=
  ⟨36, [.agg ⟨[iP 6, iP 0, .slice (some ⟨6, 0, none⟩) 4 18446744073709551616, .slice (some ⟨7, 0, none⟩) 1 1, .bool false, .slice none 0 0, .bool false, .slice none 0 0]⟩, .bool true], 8,
   gB ++ [(6, .cells true 4 [iP 0, iP 0, iP 1, iP 0, iP 0, iP 1, iP 0, iP 0, iP 1, iP 0, iP 0, iP 1]),
    (7, .cells true 0 [iP 1, iP 1, iP 1])],
   [],
   .tuple ⟨[.agg ⟨[iP 6, iP 0, .slice (some ⟨6, 0, none⟩) 4 18446744073709551616, .slice (some ⟨7, 0, none⟩) 1 1, .bool false, .slice none 0 0, .bool false, .slice none 0 0]⟩, iP 0]⟩⟩
theorem pa0_ok : pa0.okS EE.G = true := by kernel_rfl
theorem pa0_run : evT EE [] 1000000000 (.call pa0.f pa0.args) pa0.heap (keptK pa0) = some (.bool true) := by kernel_rfl
theorem pa0_h : pa0.holds EE := ent_run envOk (fun _ h => by cases h) _ _ pa0_ok pa0_run
-- decani/office.open, 8959 steps
noncomputable def pa9 : Ent :=
  ⟨36, [.agg ⟨[iP 5, iP 0, .slice (some ⟨6, 0, none⟩) 4 18446744073709551616, .slice (some ⟨7, 0, none⟩) 1 1, .bool false, .slice none 0 0, .bool false, .slice none 0 0]⟩, .bool true], 8,
   gB ++ [(6, .cells true 4 [iP 3, iP 3, iP 1, iP 3, iP 3, iP 1, iP 3, iP 3, iP 1, iP 3, iP 3, iP 1]),
    (7, .cells true 0 [iP 1, iP 1, iP 1])],
   [],
   .tuple ⟨[.agg ⟨[iP 5, iP 0, .slice (some ⟨6, 0, none⟩) 4 18446744073709551616, .slice (some ⟨7, 0, none⟩) 1 1, .bool false, .slice none 0 0, .bool false, .slice none 0 0]⟩, iP 0]⟩⟩
theorem pa9_ok : pa9.okS EE.G = true := by kernel_rfl
theorem pa9_run : evT EE [] 1000000000 (.call pa9.f pa9.args) pa9.heap (keptK pa9) = some (.bool true) := by kernel_rfl
theorem pa9_h : pa9.holds EE := ent_run envOk (fun _ h => by cases h) _ _ pa9_ok pa9_run
-- decani/office.open, 8165 steps
noncomputable def pa16 : Ent :=
  ⟨36, [.agg ⟨[iP 6, iP 0, .slice (some ⟨6, 0, none⟩) 3 18446744073709551616, .slice (some ⟨7, 0, none⟩) 1 1, .bool false, .slice none 0 0, .bool false, .slice none 0 0]⟩, .bool true], 8,
   gB ++ [(6, .cells true 4 [iP 0, iP 0, iP 1, iP 0, iP 0, iP 1, iP 0, iP 0, iP 1]),
    (7, .cells true 0 [iP 1, iP 1, iP 1])],
   [],
   .tuple ⟨[.agg ⟨[iP 6, iP 0, .slice (some ⟨6, 0, none⟩) 3 18446744073709551616, .slice (some ⟨7, 0, none⟩) 1 1, .bool false, .slice none 0 0, .bool false, .slice none 0 0]⟩, iP 0]⟩⟩
theorem pa16_ok : pa16.okS EE.G = true := by kernel_rfl
theorem pa16_run : evT EE [] 1000000000 (.call pa16.f pa16.args) pa16.heap (keptK pa16) = some (.bool true) := by kernel_rfl
theorem pa16_h : pa16.holds EE := ent_run envOk (fun _ h => by cases h) _ _ pa16_ok pa16_run
-- decani/office.open, 8165 steps
noncomputable def pa18 : Ent :=
  ⟨36, [.agg ⟨[iP 6, iP 0, .slice (some ⟨6, 0, none⟩) 3 18446744073709551616, .slice (some ⟨7, 0, none⟩) 1 1, .bool false, .slice none 0 0, .bool false, .slice none 0 0]⟩, .bool true], 8,
   gB ++ [(6, .cells true 4 [iP 2, iP 2, iP 1, iP 2, iP 2, iP 1, iP 2, iP 2, iP 1]),
    (7, .cells true 0 [iP 1, iP 1, iP 1])],
   [],
   .tuple ⟨[.agg ⟨[iP 6, iP 0, .slice (some ⟨6, 0, none⟩) 3 18446744073709551616, .slice (some ⟨7, 0, none⟩) 1 1, .bool false, .slice none 0 0, .bool false, .slice none 0 0]⟩, iP 0]⟩⟩
theorem pa18_ok : pa18.okS EE.G = true := by kernel_rfl
theorem pa18_run : evT EE [] 1000000000 (.call pa18.f pa18.args) pa18.heap (keptK pa18) = some (.bool true) := by kernel_rfl
theorem pa18_h : pa18.holds EE := ent_run envOk (fun _ h => by cases h) _ _ pa18_ok pa18_run
-- decani/office.open, 7355 steps
noncomputable def pa26 : Ent :=
  ⟨36, [.agg ⟨[iP 5, iP 0, .slice (some ⟨6, 0, none⟩) 3 18446744073709551616, .slice (some ⟨7, 0, none⟩) 1 1, .bool false, .slice none 0 0, .bool false, .slice none 0 0]⟩, .bool true], 8,
   gB ++ [(6, .cells true 4 [iP 1, iP 1, iP 1, iP 1, iP 1, iP 1, iP 1, iP 1, iP 1]),
    (7, .cells true 0 [iP 1, iP 1, iP 1])],
   [],
   .tuple ⟨[.agg ⟨[iP 5, iP 0, .slice (some ⟨6, 0, none⟩) 3 18446744073709551616, .slice (some ⟨7, 0, none⟩) 1 1, .bool false, .slice none 0 0, .bool false, .slice none 0 0]⟩, iP 0]⟩⟩
theorem pa26_ok : pa26.okS EE.G = true := by kernel_rfl
theorem pa26_run : evT EE [] 1000000000 (.call pa26.f pa26.args) pa26.heap (keptK pa26) = some (.bool true) := by kernel_rfl
theorem pa26_h : pa26.holds EE := ent_run envOk (fun _ h => by cases h) _ _ pa26_ok pa26_run
-- decani/cold.Clean, 6673 steps
noncomputable def pa32 : Ent :=
  ⟨15, [.agg ⟨[iP 4, iP 2, iP 1, iP 0, iP 1, iP 1, iP 1, iP 1, .slice none 0 0, iP 0, .slice none 0 0]⟩], 6,
   gB,
   [.cells true 2 [iP 2, iP 3]],
   .tuple ⟨[.slice (some ⟨6, 0, none⟩) 2 18446744073709551616, iP 0]⟩⟩
theorem pa32_ok : pa32.okS EE.G = true := by kernel_rfl
theorem pa32_run : evT EE [] 1000000000 (.call pa32.f pa32.args) pa32.heap (keptK pa32) = some (.bool true) := by kernel_rfl
theorem pa32_h : pa32.holds EE := ent_run envOk (fun _ h => by cases h) _ _ pa32_ok pa32_run
-- decani/office.open, 6379 steps
noncomputable def pa39 : Ent :=
  ⟨36, [.agg ⟨[iP 6, iP 0, .slice (some ⟨6, 0, none⟩) 2 18446744073709551616, .slice (some ⟨7, 0, none⟩) 1 1, .bool false, .slice none 0 0, .bool false, .slice none 0 0]⟩, .bool true], 8,
   gB ++ [(6, .cells true 4 [iP 2, iP 2, iP 1, iP 2, iP 2, iP 1]),
    (7, .cells true 0 [iP 1, iP 1, iP 1])],
   [],
   .tuple ⟨[.agg ⟨[iP 6, iP 0, .slice (some ⟨6, 0, none⟩) 2 18446744073709551616, .slice (some ⟨7, 0, none⟩) 1 1, .bool false, .slice none 0 0, .bool false, .slice none 0 0]⟩, iP 0]⟩⟩
theorem pa39_ok : pa39.okS EE.G = true := by kernel_rfl
theorem pa39_run : evT EE [] 1000000000 (.call pa39.f pa39.args) pa39.heap (keptK pa39) = some (.bool true) := by kernel_rfl
theorem pa39_h : pa39.holds EE := ent_run envOk (fun _ h => by cases h) _ _ pa39_ok pa39_run
-- decani/office.open, 6166 steps
noncomputable def pa44 : Ent :=
  ⟨36, [.agg ⟨[iP 4, iP 0, .slice (some ⟨6, 0, none⟩) 3 18446744073709551616, .slice (some ⟨7, 0, none⟩) 1 1, .bool false, .slice none 0 0, .bool false, .slice none 0 0]⟩, .bool true], 8,
   gB ++ [(6, .cells true 4 [iP 3, iP 3, iP 1, iP 3, iP 3, iP 1, iP 3, iP 3, iP 1]),
    (7, .cells true 0 [iP 1, iP 1, iP 1])],
   [],
   .tuple ⟨[.agg ⟨[iP 4, iP 0, .slice (some ⟨6, 0, none⟩) 3 18446744073709551616, .slice (some ⟨7, 0, none⟩) 1 1, .bool false, .slice none 0 0, .bool false, .slice none 0 0]⟩, iP 0]⟩⟩
theorem pa44_ok : pa44.okS EE.G = true := by kernel_rfl
theorem pa44_run : evT EE [] 1000000000 (.call pa44.f pa44.args) pa44.heap (keptK pa44) = some (.bool true) := by kernel_rfl
theorem pa44_h : pa44.holds EE := ent_run envOk (fun _ h => by cases h) _ _ pa44_ok pa44_run
-- decani/office.open, 5773 steps
noncomputable def pa49 : Ent :=
  ⟨36, [.agg ⟨[iP 6, iP 0, .slice (some ⟨6, 0, none⟩) 2 2, .slice none 0 0, .bool false, .slice none 0 0, .bool false, .slice none 0 0]⟩, .bool true], 7,
   gB ++ [(6, .cells true 0 [iP 0, iP 1, iP 2, iP 1, iP 2, iP 2])],
   [],
   .tuple ⟨[.agg ⟨[iP 6, iP 0, .slice (some ⟨6, 0, none⟩) 2 2, .slice none 0 0, .bool false, .slice none 0 0, .bool false, .slice none 0 0]⟩, iP 0]⟩⟩
theorem pa49_ok : pa49.okS EE.G = true := by kernel_rfl
theorem pa49_run : evT EE [] 1000000000 (.call pa49.f pa49.args) pa49.heap (keptK pa49) = some (.bool true) := by kernel_rfl
theorem pa49_h : pa49.holds EE := ent_run envOk (fun _ h => by cases h) _ _ pa49_ok pa49_run
-- decani/office.open, 5663 steps
noncomputable def pa55 : Ent :=
  ⟨36, [.agg ⟨[iP 5, iP 0, .slice (some ⟨6, 0, none⟩) 2 18446744073709551616, .slice (some ⟨7, 0, none⟩) 1 1, .bool false, .slice none 0 0, .bool false, .slice none 0 0]⟩, .bool true], 8,
   gB ++ [(6, .cells true 4 [iP 3, iP 3, iP 1, iP 3, iP 3, iP 1]),
    (7, .cells true 0 [iP 1, iP 1, iP 1])],
   [],
   .tuple ⟨[.agg ⟨[iP 5, iP 0, .slice (some ⟨6, 0, none⟩) 2 18446744073709551616, .slice (some ⟨7, 0, none⟩) 1 1, .bool false, .slice none 0 0, .bool false, .slice none 0 0]⟩, iP 0]⟩⟩
theorem pa55_ok : pa55.okS EE.G = true := by kernel_rfl
theorem pa55_run : evT EE [] 1000000000 (.call pa55.f pa55.args) pa55.heap (keptK pa55) = some (.bool true) := by kernel_rfl
theorem pa55_h : pa55.holds EE := ent_run envOk (fun _ h => by cases h) _ _ pa55_ok pa55_run
-- decani/office.open, 4947 steps
noncomputable def pa63 : Ent :=
  ⟨36, [.agg ⟨[iP 4, iP 0, .slice (some ⟨6, 0, none⟩) 2 18446744073709551616, .slice (some ⟨7, 0, none⟩) 1 1, .bool false, .slice none 0 0, .bool false, .slice none 0 0]⟩, .bool true], 8,
   gB ++ [(6, .cells true 4 [iP 1, iP 1, iP 1, iP 1, iP 1, iP 1]),
    (7, .cells true 0 [iP 1, iP 1, iP 1])],
   [],
   .tuple ⟨[.agg ⟨[iP 4, iP 0, .slice (some ⟨6, 0, none⟩) 2 18446744073709551616, .slice (some ⟨7, 0, none⟩) 1 1, .bool false, .slice none 0 0, .bool false, .slice none 0 0]⟩, iP 0]⟩⟩
theorem pa63_ok : pa63.okS EE.G = true := by kernel_rfl
theorem pa63_run : evT EE [] 1000000000 (.call pa63.f pa63.args) pa63.heap (keptK pa63) = some (.bool true) := by kernel_rfl
theorem pa63_h : pa63.holds EE := ent_run envOk (fun _ h => by cases h) _ _ pa63_ok pa63_run
-- decani/office.open, 4884 steps
noncomputable def pa67 : Ent :=
  ⟨36, [.agg ⟨[iP 6, iP 0, .slice (some ⟨6, 0, none⟩) 1 18446744073709551616, .slice (some ⟨7, 0, none⟩) 1 1, .bool false, .slice none 0 0, .bool false, .slice none 0 0]⟩, .bool true], 8,
   gB ++ [(6, .cells true 4 [iP 1, iP 1, iP 1]),
    (7, .cells true 0 [iP 1, iP 1, iP 1])],
   [],
   .tuple ⟨[.agg ⟨[iP 6, iP 0, .slice (some ⟨6, 0, none⟩) 1 18446744073709551616, .slice (some ⟨7, 0, none⟩) 1 1, .bool false, .slice none 0 0, .bool false, .slice none 0 0]⟩, iP 0]⟩⟩
theorem pa67_ok : pa67.okS EE.G = true := by kernel_rfl
theorem pa67_run : evT EE [] 1000000000 (.call pa67.f pa67.args) pa67.heap (keptK pa67) = some (.bool true) := by kernel_rfl
theorem pa67_h : pa67.holds EE := ent_run envOk (fun _ h => by cases h) _ _ pa67_ok pa67_run
-- decani/office.open, 4717 steps
noncomputable def pa73 : Ent :=
  ⟨36, [.agg ⟨[iP 1, iP 0, .slice (some ⟨6, 0, none⟩) 4 18446744073709551616, .slice (some ⟨7, 0, none⟩) 1 1, .bool false, .slice none 0 0, .bool false, .slice none 0 0]⟩, .bool true], 8,
   gB ++ [(6, .cells true 4 [iP 0, iP 0, iP 1, iP 0, iP 0, iP 1, iP 0, iP 0, iP 1, iP 0, iP 0, iP 1]),
    (7, .cells true 0 [iP 1, iP 1, iP 1])],
   [],
   .tuple ⟨[.agg ⟨[iP 1, iP 0, .slice (some ⟨6, 0, none⟩) 4 18446744073709551616, .slice (some ⟨7, 0, none⟩) 1 1, .bool false, .slice none 0 0, .bool false, .slice none 0 0]⟩, iP 0]⟩⟩
theorem pa73_ok : pa73.okS EE.G = true := by kernel_rfl
theorem pa73_run : evT EE [] 1000000000 (.call pa73.f pa73.args) pa73.heap (keptK pa73) = some (.bool true) := by kernel_rfl
theorem pa73_h : pa73.holds EE := ent_run envOk (fun _ h => by cases h) _ _ pa73_ok pa73_run
-- decani/office.open, 4262 steps
noncomputable def pa82 : Ent :=
  ⟨36, [.agg ⟨[iP 5, iP 0, .slice (some ⟨6, 0, none⟩) 1 18446744073709551616, .slice (some ⟨7, 0, none⟩) 1 1, .bool false, .slice none 0 0, .bool false, .slice none 0 0]⟩, .bool true], 8,
   gB ++ [(6, .cells true 4 [iP 4, iP 4, iP 1]),
    (7, .cells true 0 [iP 1, iP 1, iP 1])],
   [],
   .tuple ⟨[.agg ⟨[iP 5, iP 0, .slice (some ⟨6, 0, none⟩) 1 18446744073709551616, .slice (some ⟨7, 0, none⟩) 1 1, .bool false, .slice none 0 0, .bool false, .slice none 0 0]⟩, iP 0]⟩⟩
theorem pa82_ok : pa82.okS EE.G = true := by kernel_rfl
theorem pa82_run : evT EE [] 1000000000 (.call pa82.f pa82.args) pa82.heap (keptK pa82) = some (.bool true) := by kernel_rfl
theorem pa82_h : pa82.holds EE := ent_run envOk (fun _ h => by cases h) _ _ pa82_ok pa82_run
-- decani/cold.Caught, 4077 steps
noncomputable def pa88 : Ent :=
  ⟨10, [.agg ⟨[iP 4, iP 4, iP 1, iP 0, iP 1, iP 1, iP 1, iP 1, .slice none 0 0, iP 0, .slice none 0 0]⟩, iP 0], 6,
   gB,
   [],
   .tuple ⟨[.agg ⟨[iP 0, iP 0]⟩, iP 0]⟩⟩
theorem pa88_ok : pa88.okS EE.G = true := by kernel_rfl
theorem pa88_run : evT EE [] 1000000000 (.call pa88.f pa88.args) pa88.heap (keptK pa88) = some (.bool true) := by kernel_rfl
theorem pa88_h : pa88.holds EE := ent_run envOk (fun _ h => by cases h) _ _ pa88_ok pa88_run
-- decani/cold.Caught, 4077 steps
noncomputable def pa94 : Ent :=
  ⟨10, [.agg ⟨[iP 4, iP 5, iP 1, iP 0, iP 1, iP 1, iP 1, iP 1, .slice none 0 0, iP 0, .slice none 0 0]⟩, iP 2], 6,
   gB,
   [],
   .tuple ⟨[.agg ⟨[iP 2, iP 2]⟩, iP 0]⟩⟩
theorem pa94_ok : pa94.okS EE.G = true := by kernel_rfl
theorem pa94_run : evT EE [] 1000000000 (.call pa94.f pa94.args) pa94.heap (keptK pa94) = some (.bool true) := by kernel_rfl
theorem pa94_h : pa94.holds EE := ent_run envOk (fun _ h => by cases h) _ _ pa94_ok pa94_run
-- decani/cold.Ill, 4075 steps
noncomputable def pa100 : Ent :=
  ⟨12, [.agg ⟨[iP 4, iP 4, iP 1, iP 0, iP 1, iP 1, iP 1, iP 1, .slice none 0 0, iP 0, .slice none 0 0]⟩, iP 0, iP 3], 6,
   gB,
   [],
   .tuple ⟨[iP 2, iP 0]⟩⟩
theorem pa100_ok : pa100.okS EE.G = true := by kernel_rfl
theorem pa100_run : evT EE [] 1000000000 (.call pa100.f pa100.args) pa100.heap (keptK pa100) = some (.bool true) := by kernel_rfl
theorem pa100_h : pa100.holds EE := ent_run envOk (fun _ h => by cases h) _ _ pa100_ok pa100_run
-- decani/cold.Ill, 4075 steps
noncomputable def pa106 : Ent :=
  ⟨12, [.agg ⟨[iP 4, iP 5, iP 1, iP 0, iP 1, iP 1, iP 1, iP 1, .slice none 0 0, iP 0, .slice none 0 0]⟩, iP 2, iP 4], 6,
   gB,
   [],
   .tuple ⟨[iP 2, iP 0]⟩⟩
theorem pa106_ok : pa106.okS EE.G = true := by kernel_rfl
theorem pa106_run : evT EE [] 1000000000 (.call pa106.f pa106.args) pa106.heap (keptK pa106) = some (.bool true) := by kernel_rfl
theorem pa106_h : pa106.holds EE := ent_run envOk (fun _ h => by cases h) _ _ pa106_ok pa106_run
-- decani/cold.Clean, 3923 steps
noncomputable def pa112 : Ent :=
  ⟨15, [.agg ⟨[iP 2, iP 2, iP 1, iP 0, iP 1, iP 1, iP 1, iP 1, .slice none 0 0, iP 0, .slice none 0 0]⟩], 6,
   gB,
   [],
   .tuple ⟨[.slice none 0 0, iP 0]⟩⟩
theorem pa112_ok : pa112.okS EE.G = true := by kernel_rfl
theorem pa112_run : evT EE [] 1000000000 (.call pa112.f pa112.args) pa112.heap (keptK pa112) = some (.bool true) := by kernel_rfl
theorem pa112_h : pa112.holds EE := ent_run envOk (fun _ h => by cases h) _ _ pa112_ok pa112_run
-- decani/cold.Clean, 3923 steps
noncomputable def pa115 : Ent :=
  ⟨15, [.agg ⟨[iP 2, iP 5, iP 1, iP 0, iP 1, iP 1, iP 1, iP 1, .slice none 0 0, iP 0, .slice none 0 0]⟩], 6,
   gB,
   [],
   .tuple ⟨[.slice none 0 0, iP 0]⟩⟩
theorem pa115_ok : pa115.okS EE.G = true := by kernel_rfl
theorem pa115_run : evT EE [] 1000000000 (.call pa115.f pa115.args) pa115.heap (keptK pa115) = some (.bool true) := by kernel_rfl
theorem pa115_h : pa115.holds EE := ent_run envOk (fun _ h => by cases h) _ _ pa115_ok pa115_run
-- decani/cold.Caught, 3619 steps
noncomputable def pa124 : Ent :=
  ⟨10, [.agg ⟨[iP 4, iP 3, iP 1, iP 0, iP 1, iP 1, iP 1, iP 1, .slice none 0 0, iP 0, .slice none 0 0]⟩, iP 2], 6,
   gB,
   [],
   .tuple ⟨[.agg ⟨[iP 2, iP 2]⟩, iP 0]⟩⟩
theorem pa124_ok : pa124.okS EE.G = true := by kernel_rfl
theorem pa124_run : evT EE [] 1000000000 (.call pa124.f pa124.args) pa124.heap (keptK pa124) = some (.bool true) := by kernel_rfl
theorem pa124_h : pa124.holds EE := ent_run envOk (fun _ h => by cases h) _ _ pa124_ok pa124_run
-- decani/cold.Caught, 3518 steps
noncomputable def pa130 : Ent :=
  ⟨10, [.agg ⟨[iP 3, iP 3, iP 1, iP 0, iP 1, iP 1, iP 1, iP 1, .slice none 0 0, iP 0, .slice none 0 0]⟩, iP 0], 6,
   gB,
   [],
   .tuple ⟨[.agg ⟨[iP 0, iP 0]⟩, iP 0]⟩⟩
theorem pa130_ok : pa130.okS EE.G = true := by kernel_rfl
theorem pa130_run : evT EE [] 1000000000 (.call pa130.f pa130.args) pa130.heap (keptK pa130) = some (.bool true) := by kernel_rfl
theorem pa130_h : pa130.holds EE := ent_run envOk (fun _ h => by cases h) _ _ pa130_ok pa130_run
-- decani/cold.Caught, 3518 steps
noncomputable def pa136 : Ent :=
  ⟨10, [.agg ⟨[iP 3, iP 5, iP 1, iP 0, iP 1, iP 1, iP 1, iP 1, .slice none 0 0, iP 0, .slice none 0 0]⟩, iP 1], 6,
   gB,
   [],
   .tuple ⟨[.agg ⟨[iP 1, iP 1]⟩, iP 0]⟩⟩
theorem pa136_ok : pa136.okS EE.G = true := by kernel_rfl
theorem pa136_run : evT EE [] 1000000000 (.call pa136.f pa136.args) pa136.heap (keptK pa136) = some (.bool true) := by kernel_rfl
theorem pa136_h : pa136.holds EE := ent_run envOk (fun _ h => by cases h) _ _ pa136_ok pa136_run
-- decani/cold.Ill, 3516 steps
noncomputable def pa142 : Ent :=
  ⟨12, [.agg ⟨[iP 3, iP 3, iP 1, iP 0, iP 1, iP 1, iP 1, iP 1, .slice none 0 0, iP 0, .slice none 0 0]⟩, iP 1, iP 2], 6,
   gB,
   [],
   .tuple ⟨[iP 2, iP 0]⟩⟩
theorem pa142_ok : pa142.okS EE.G = true := by kernel_rfl
theorem pa142_run : evT EE [] 1000000000 (.call pa142.f pa142.args) pa142.heap (keptK pa142) = some (.bool true) := by kernel_rfl
theorem pa142_h : pa142.holds EE := ent_run envOk (fun _ h => by cases h) _ _ pa142_ok pa142_run
-- decani/cold.Ill, 3516 steps
noncomputable def pa148 : Ent :=
  ⟨12, [.agg ⟨[iP 3, iP 5, iP 1, iP 0, iP 1, iP 1, iP 1, iP 1, .slice none 0 0, iP 0, .slice none 0 0]⟩, iP 1, iP 4], 6,
   gB,
   [],
   .tuple ⟨[iP 2, iP 0]⟩⟩
theorem pa148_ok : pa148.okS EE.G = true := by kernel_rfl
theorem pa148_run : evT EE [] 1000000000 (.call pa148.f pa148.args) pa148.heap (keptK pa148) = some (.bool true) := by kernel_rfl
theorem pa148_h : pa148.holds EE := ent_run envOk (fun _ h => by cases h) _ _ pa148_ok pa148_run
-- decani/cold.Ill, 3474 steps
noncomputable def pa154 : Ent :=
  ⟨12, [.agg ⟨[iP 4, iP 1, iP 1, iP 0, iP 1, iP 1, iP 1, iP 1, .slice none 0 0, iP 0, .slice none 0 0]⟩, iP 1, iP 0], 6,
   gB,
   [],
   .tuple ⟨[iP 0, iP 0]⟩⟩
theorem pa154_ok : pa154.okS EE.G = true := by kernel_rfl
theorem pa154_run : evT EE [] 1000000000 (.call pa154.f pa154.args) pa154.heap (keptK pa154) = some (.bool true) := by kernel_rfl
theorem pa154_h : pa154.holds EE := ent_run envOk (fun _ h => by cases h) _ _ pa154_ok pa154_run
-- decani/cold.Ill, 3441 steps
noncomputable def pa158 : Ent :=
  ⟨12, [.agg ⟨[iP 3, iP 1, iP 1, iP 0, iP 1, iP 1, iP 1, iP 1, .slice none 0 0, iP 0, .slice none 0 0]⟩, iP 1, iP 0], 6,
   gB,
   [],
   .tuple ⟨[iP 0, iP 0]⟩⟩
theorem pa158_ok : pa158.okS EE.G = true := by kernel_rfl
theorem pa158_run : evT EE [] 1000000000 (.call pa158.f pa158.args) pa158.heap (keptK pa158) = some (.bool true) := by kernel_rfl
theorem pa158_h : pa158.holds EE := ent_run envOk (fun _ h => by cases h) _ _ pa158_ok pa158_run
-- decani/cold.Caught, 3093 steps
noncomputable def pa164 : Ent :=
  ⟨10, [.agg ⟨[iP 4, iP 2, iP 1, iP 0, iP 1, iP 1, iP 1, iP 1, .slice none 0 0, iP 0, .slice none 0 0]⟩, iP 1], 6,
   gB,
   [],
   .tuple ⟨[.agg ⟨[iP 1, iP 1]⟩, iP 0]⟩⟩
theorem pa164_ok : pa164.okS EE.G = true := by kernel_rfl
theorem pa164_run : evT EE [] 1000000000 (.call pa164.f pa164.args) pa164.heap (keptK pa164) = some (.bool true) := by kernel_rfl
theorem pa164_h : pa164.holds EE := ent_run envOk (fun _ h => by cases h) _ _ pa164_ok pa164_run
-- decani/office.open, 3018 steps
noncomputable def pa171 : Ent :=
  ⟨36, [.agg ⟨[iP 3, iP 0, .slice (some ⟨6, 0, none⟩) 1 18446744073709551616, .slice (some ⟨7, 0, none⟩) 1 1, .bool false, .slice none 0 0, .bool false, .slice none 0 0]⟩, .bool true], 8,
   gB ++ [(6, .cells true 4 [iP 0, iP 0, iP 1]),
    (7, .cells true 0 [iP 1, iP 1, iP 1])],
   [],
   .tuple ⟨[.agg ⟨[iP 3, iP 0, .slice (some ⟨6, 0, none⟩) 1 18446744073709551616, .slice (some ⟨7, 0, none⟩) 1 1, .bool false, .slice none 0 0, .bool false, .slice none 0 0]⟩, iP 0]⟩⟩
theorem pa171_ok : pa171.okS EE.G = true := by kernel_rfl
theorem pa171_run : evT EE [] 1000000000 (.call pa171.f pa171.args) pa171.heap (keptK pa171) = some (.bool true) := by kernel_rfl
theorem pa171_h : pa171.holds EE := ent_run envOk (fun _ h => by cases h) _ _ pa171_ok pa171_run
-- decani/cold.Caught, 3010 steps
noncomputable def pa174 : Ent :=
  ⟨10, [.agg ⟨[iP 4, iP 2, iP 1, iP 0, iP 1, iP 1, iP 1, iP 1, .slice none 0 0, iP 0, .slice none 0 0]⟩, iP 2], 6,
   gB,
   [],
   .tuple ⟨[.agg ⟨[iP 0, iP 0]⟩, iP 4]⟩⟩
theorem pa174_ok : pa174.okS EE.G = true := by kernel_rfl
theorem pa174_run : evT EE [] 1000000000 (.call pa174.f pa174.args) pa174.heap (keptK pa174) = some (.bool true) := by kernel_rfl
theorem pa174_h : pa174.holds EE := ent_run envOk (fun _ h => by cases h) _ _ pa174_ok pa174_run
-- decani/cold.Caught, 2959 steps
noncomputable def pa183 : Ent :=
  ⟨10, [.agg ⟨[iP 2, iP 5, iP 1, iP 0, iP 1, iP 1, iP 1, iP 1, .slice none 0 0, iP 0, .slice none 0 0]⟩, iP 0], 6,
   gB,
   [],
   .tuple ⟨[.agg ⟨[iP 0, iP 0]⟩, iP 0]⟩⟩
theorem pa183_ok : pa183.okS EE.G = true := by kernel_rfl
theorem pa183_run : evT EE [] 1000000000 (.call pa183.f pa183.args) pa183.heap (keptK pa183) = some (.bool true) := by kernel_rfl
theorem pa183_h : pa183.holds EE := ent_run envOk (fun _ h => by cases h) _ _ pa183_ok pa183_run
-- decani/cold.Ill, 2957 steps
noncomputable def pa189 : Ent :=
  ⟨12, [.agg ⟨[iP 2, iP 3, iP 1, iP 0, iP 1, iP 1, iP 1, iP 1, .slice none 0 0, iP 0, .slice none 0 0]⟩, iP 0, iP 2], 6,
   gB,
   [],
   .tuple ⟨[iP 2, iP 0]⟩⟩
theorem pa189_ok : pa189.okS EE.G = true := by kernel_rfl
theorem pa189_run : evT EE [] 1000000000 (.call pa189.f pa189.args) pa189.heap (keptK pa189) = some (.bool true) := by kernel_rfl
theorem pa189_h : pa189.holds EE := ent_run envOk (fun _ h => by cases h) _ _ pa189_ok pa189_run
-- decani/cold.Ill, 2957 steps
noncomputable def pa195 : Ent :=
  ⟨12, [.agg ⟨[iP 2, iP 6, iP 1, iP 0, iP 1, iP 1, iP 1, iP 1, .slice none 0 0, iP 0, .slice none 0 0]⟩, iP 0, iP 5], 6,
   gB,
   [],
   .tuple ⟨[iP 2, iP 0]⟩⟩
theorem pa195_ok : pa195.okS EE.G = true := by kernel_rfl
theorem pa195_run : evT EE [] 1000000000 (.call pa195.f pa195.args) pa195.heap (keptK pa195) = some (.bool true) := by kernel_rfl
theorem pa195_h : pa195.holds EE := ent_run envOk (fun _ h => by cases h) _ _ pa195_ok pa195_run
-- decani/cold.Caught, 2501 steps
noncomputable def pa202 : Ent :=
  ⟨10, [.agg ⟨[iP 2, iP 1, iP 1, iP 0, iP 1, iP 1, iP 1, iP 1, .slice none 0 0, iP 0, .slice none 0 0]⟩, iP 0], 6,
   gB,
   [],
   .tuple ⟨[.agg ⟨[iP 0, iP 0]⟩, iP 0]⟩⟩
theorem pa202_ok : pa202.okS EE.G = true := by kernel_rfl
theorem pa202_run : evT EE [] 1000000000 (.call pa202.f pa202.args) pa202.heap (keptK pa202) = some (.bool true) := by kernel_rfl
theorem pa202_h : pa202.holds EE := ent_run envOk (fun _ h => by cases h) _ _ pa202_ok pa202_run
-- decani/cold.Caught, 2484 steps
noncomputable def pa205 : Ent :=
  ⟨10, [.agg ⟨[iP 4, iP 1, iP 1, iP 0, iP 1, iP 1, iP 1, iP 1, .slice none 0 0, iP 0, .slice none 0 0]⟩, iP 2], 6,
   gB,
   [],
   .tuple ⟨[.agg ⟨[iP 0, iP 0]⟩, iP 4]⟩⟩
theorem pa205_ok : pa205.okS EE.G = true := by kernel_rfl
theorem pa205_run : evT EE [] 1000000000 (.call pa205.f pa205.args) pa205.heap (keptK pa205) = some (.bool true) := by kernel_rfl
theorem pa205_h : pa205.holds EE := ent_run envOk (fun _ h => by cases h) _ _ pa205_ok pa205_run
-- decani/cold.Caught, 2400 steps
noncomputable def pa214 : Ent :=
  ⟨10, [.agg ⟨[iP 1, iP 5, iP 1, iP 0, iP 1, iP 1, iP 1, iP 1, .slice none 0 0, iP 0, .slice none 0 0]⟩, iP 0], 6,
   gB,
   [],
   .tuple ⟨[.agg ⟨[iP 0, iP 0]⟩, iP 0]⟩⟩
theorem pa214_ok : pa214.okS EE.G = true := by kernel_rfl
theorem pa214_run : evT EE [] 1000000000 (.call pa214.f pa214.args) pa214.heap (keptK pa214) = some (.bool true) := by kernel_rfl
theorem pa214_h : pa214.holds EE := ent_run envOk (fun _ h => by cases h) _ _ pa214_ok pa214_run
-- decani/cold.Ill, 2398 steps
noncomputable def pa220 : Ent :=
  ⟨12, [.agg ⟨[iP 1, iP 5, iP 1, iP 0, iP 1, iP 1, iP 1, iP 1, .slice none 0 0, iP 0, .slice none 0 0]⟩, iP 0, iP 4], 6,
   gB,
   [],
   .tuple ⟨[iP 2, iP 0]⟩⟩
theorem pa220_ok : pa220.okS EE.G = true := by kernel_rfl
theorem pa220_run : evT EE [] 1000000000 (.call pa220.f pa220.args) pa220.heap (keptK pa220) = some (.bool true) := by kernel_rfl
theorem pa220_h : pa220.holds EE := ent_run envOk (fun _ h => by cases h) _ _ pa220_ok pa220_run
-- decani/cold.Clean, 2263 steps
noncomputable def pa226 : Ent :=
  ⟨15, [.agg ⟨[iP 1, iP 3, iP 1, iP 0, iP 1, iP 1, iP 1, iP 1, .slice none 0 0, iP 0, .slice none 0 0]⟩], 6,
   gB,
   [],
   .tuple ⟨[.slice none 0 0, iP 0]⟩⟩
theorem pa226_ok : pa226.okS EE.G = true := by kernel_rfl
theorem pa226_run : evT EE [] 1000000000 (.call pa226.f pa226.args) pa226.heap (keptK pa226) = some (.bool true) := by kernel_rfl
theorem pa226_h : pa226.holds EE := ent_run envOk (fun _ h => by cases h) _ _ pa226_ok pa226_run
-- decani/office.open, 1774 steps
noncomputable def pa230 : Ent :=
  ⟨36, [.agg ⟨[iP 1, iP 0, .slice (some ⟨6, 0, none⟩) 1 18446744073709551616, .slice (some ⟨7, 0, none⟩) 1 1, .bool false, .slice none 0 0, .bool false, .slice none 0 0]⟩, .bool true], 8,
   gB ++ [(6, .cells true 4 [iP 0, iP 0, iP 1]),
    (7, .cells true 0 [iP 1, iP 1, iP 1])],
   [],
   .tuple ⟨[.agg ⟨[iP 1, iP 0, .slice (some ⟨6, 0, none⟩) 1 18446744073709551616, .slice (some ⟨7, 0, none⟩) 1 1, .bool false, .slice none 0 0, .bool false, .slice none 0 0]⟩, iP 0]⟩⟩
theorem pa230_ok : pa230.okS EE.G = true := by kernel_rfl
theorem pa230_run : evT EE [] 1000000000 (.call pa230.f pa230.args) pa230.heap (keptK pa230) = some (.bool true) := by kernel_rfl
theorem pa230_h : pa230.holds EE := ent_run envOk (fun _ h => by cases h) _ _ pa230_ok pa230_run
end Go.Proofs.YtmjpnohpmfmdlaaGreatDoor
