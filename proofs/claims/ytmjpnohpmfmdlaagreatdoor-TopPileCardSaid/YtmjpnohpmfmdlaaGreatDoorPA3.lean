/- Known calls, part 3: what single calls hand back, at small heaps, by the kernel's own run of the evaluator. No conditions. -/
import Derived.Test.YtmjpnohpmfmdlaaGreatDoorEnv
set_option linter.all false
namespace Go.Proofs.YtmjpnohpmfmdlaaGreatDoor
open Go.Ai
set_option maxRecDepth 1000000
-- decani/office.open, 10198 steps
noncomputable def pa3 : Ent :=
  ⟨36, [.agg ⟨[iP 6, iP 0, .slice (some ⟨6, 0, none⟩) 4 18446744073709551616, .slice (some ⟨7, 0, none⟩) 1 1, .bool false, .slice none 0 0, .bool false, .slice none 0 0]⟩, .bool true], 8,
   gB ++ [(6, .cells true 4 [iP 3, iP 3, iP 1, iP 3, iP 3, iP 1, iP 3, iP 3, iP 1, iP 3, iP 3, iP 1]),
    (7, .cells true 0 [iP 1, iP 1, iP 1])],
   [],
   .tuple ⟨[.agg ⟨[iP 6, iP 0, .slice (some ⟨6, 0, none⟩) 4 18446744073709551616, .slice (some ⟨7, 0, none⟩) 1 1, .bool false, .slice none 0 0, .bool false, .slice none 0 0]⟩, iP 0]⟩⟩
theorem pa3_ok : pa3.okS EE.G = true := by kernel_rfl
theorem pa3_run : evT EE [] 1000000000 (.call pa3.f pa3.args) pa3.heap (keptK pa3) = some (.bool true) := by kernel_rfl
theorem pa3_h : pa3.holds EE := ent_run envOk (fun _ h => by cases h) _ _ pa3_ok pa3_run
-- decani/office.open, 9237 steps
noncomputable def pa8 : Ent :=
  ⟨36, [.agg ⟨[iP 6, iP 0, .slice (some ⟨6, 0, none⟩) 4 18446744073709551616, .slice (some ⟨7, 0, none⟩) 1 1, .bool false, .slice none 0 0, .bool false, .slice none 0 0]⟩, .bool true], 8,
   gB ++ [(6, .cells true 4 [iP 5, iP 5, iP 1, iP 5, iP 5, iP 1, iP 5, iP 5, iP 1, iP 5, iP 5, iP 1]),
    (7, .cells true 0 [iP 1, iP 1, iP 1])],
   [],
   .tuple ⟨[.agg ⟨[iP 6, iP 0, .slice (some ⟨6, 0, none⟩) 4 18446744073709551616, .slice (some ⟨7, 0, none⟩) 1 1, .bool false, .slice none 0 0, .bool false, .slice none 0 0]⟩, iP 0]⟩⟩
theorem pa8_ok : pa8.okS EE.G = true := by kernel_rfl
theorem pa8_run : evT EE [] 1000000000 (.call pa8.f pa8.args) pa8.heap (keptK pa8) = some (.bool true) := by kernel_rfl
theorem pa8_h : pa8.holds EE := ent_run envOk (fun _ h => by cases h) _ _ pa8_ok pa8_run
-- decani/office.open, 8165 steps
noncomputable def pa17 : Ent :=
  ⟨36, [.agg ⟨[iP 6, iP 0, .slice (some ⟨6, 0, none⟩) 3 18446744073709551616, .slice (some ⟨7, 0, none⟩) 1 1, .bool false, .slice none 0 0, .bool false, .slice none 0 0]⟩, .bool true], 8,
   gB ++ [(6, .cells true 4 [iP 1, iP 1, iP 1, iP 1, iP 1, iP 1, iP 1, iP 1, iP 1]),
    (7, .cells true 0 [iP 1, iP 1, iP 1])],
   [],
   .tuple ⟨[.agg ⟨[iP 6, iP 0, .slice (some ⟨6, 0, none⟩) 3 18446744073709551616, .slice (some ⟨7, 0, none⟩) 1 1, .bool false, .slice none 0 0, .bool false, .slice none 0 0]⟩, iP 0]⟩⟩
theorem pa17_ok : pa17.okS EE.G = true := by kernel_rfl
theorem pa17_run : evT EE [] 1000000000 (.call pa17.f pa17.args) pa17.heap (keptK pa17) = some (.bool true) := by kernel_rfl
theorem pa17_h : pa17.holds EE := ent_run envOk (fun _ h => by cases h) _ _ pa17_ok pa17_run
-- decani/office.open, 7786 steps
noncomputable def pa23 : Ent :=
  ⟨36, [.agg ⟨[iP 6, iP 0, .slice (some ⟨6, 0, none⟩) 3 18446744073709551616, .slice (some ⟨7, 0, none⟩) 1 1, .bool false, .slice none 0 0, .bool false, .slice none 0 0]⟩, .bool true], 8,
   gB ++ [(6, .cells true 4 [iP 5, iP 5, iP 1, iP 5, iP 5, iP 1, iP 5, iP 5, iP 1]),
    (7, .cells true 0 [iP 1, iP 1, iP 1])],
   [],
   .tuple ⟨[.agg ⟨[iP 6, iP 0, .slice (some ⟨6, 0, none⟩) 3 18446744073709551616, .slice (some ⟨7, 0, none⟩) 1 1, .bool false, .slice none 0 0, .bool false, .slice none 0 0]⟩, iP 0]⟩⟩
theorem pa23_ok : pa23.okS EE.G = true := by kernel_rfl
theorem pa23_run : evT EE [] 1000000000 (.call pa23.f pa23.args) pa23.heap (keptK pa23) = some (.bool true) := by kernel_rfl
theorem pa23_h : pa23.holds EE := ent_run envOk (fun _ h => by cases h) _ _ pa23_ok pa23_run
-- decani/office.open, 7429 steps
noncomputable def pa25 : Ent :=
  ⟨36, [.agg ⟨[iP 4, iP 0, .slice (some ⟨6, 0, none⟩) 4 18446744073709551616, .slice (some ⟨7, 0, none⟩) 1 1, .bool false, .slice none 0 0, .bool false, .slice none 0 0]⟩, .bool true], 8,
   gB ++ [(6, .cells true 4 [iP 3, iP 3, iP 1, iP 3, iP 3, iP 1, iP 3, iP 3, iP 1, iP 3, iP 3, iP 1]),
    (7, .cells true 0 [iP 1, iP 1, iP 1])],
   [],
   .tuple ⟨[.agg ⟨[iP 4, iP 0, .slice (some ⟨6, 0, none⟩) 4 18446744073709551616, .slice (some ⟨7, 0, none⟩) 1 1, .bool false, .slice none 0 0, .bool false, .slice none 0 0]⟩, iP 0]⟩⟩
theorem pa25_ok : pa25.okS EE.G = true := by kernel_rfl
theorem pa25_run : evT EE [] 1000000000 (.call pa25.f pa25.args) pa25.heap (keptK pa25) = some (.bool true) := by kernel_rfl
theorem pa25_h : pa25.holds EE := ent_run envOk (fun _ h => by cases h) _ _ pa25_ok pa25_run
-- decani/office.open, 7151 steps
noncomputable def pa30 : Ent :=
  ⟨36, [.agg ⟨[iP 3, iP 0, .slice (some ⟨6, 0, none⟩) 4 18446744073709551616, .slice (some ⟨7, 0, none⟩) 1 1, .bool false, .slice none 0 0, .bool false, .slice none 0 0]⟩, .bool true], 8,
   gB ++ [(6, .cells true 4 [iP 1, iP 1, iP 1, iP 1, iP 1, iP 1, iP 1, iP 1, iP 1, iP 1, iP 1, iP 1]),
    (7, .cells true 0 [iP 1, iP 1, iP 1])],
   [],
   .tuple ⟨[.agg ⟨[iP 3, iP 0, .slice (some ⟨6, 0, none⟩) 4 18446744073709551616, .slice (some ⟨7, 0, none⟩) 1 1, .bool false, .slice none 0 0, .bool false, .slice none 0 0]⟩, iP 0]⟩⟩
theorem pa30_ok : pa30.okS EE.G = true := by kernel_rfl
theorem pa30_run : evT EE [] 1000000000 (.call pa30.f pa30.args) pa30.heap (keptK pa30) = some (.bool true) := by kernel_rfl
theorem pa30_h : pa30.holds EE := ent_run envOk (fun _ h => by cases h) _ _ pa30_ok pa30_run
-- decani/office.open, 6379 steps
noncomputable def pa41 : Ent :=
  ⟨36, [.agg ⟨[iP 6, iP 0, .slice (some ⟨6, 0, none⟩) 2 18446744073709551616, .slice (some ⟨7, 0, none⟩) 1 1, .bool false, .slice none 0 0, .bool false, .slice none 0 0]⟩, .bool true], 8,
   gB ++ [(6, .cells true 4 [iP 4, iP 4, iP 1, iP 4, iP 4, iP 1]),
    (7, .cells true 0 [iP 1, iP 1, iP 1])],
   [],
   .tuple ⟨[.agg ⟨[iP 6, iP 0, .slice (some ⟨6, 0, none⟩) 2 18446744073709551616, .slice (some ⟨7, 0, none⟩) 1 1, .bool false, .slice none 0 0, .bool false, .slice none 0 0]⟩, iP 0]⟩⟩
theorem pa41_ok : pa41.okS EE.G = true := by kernel_rfl
theorem pa41_run : evT EE [] 1000000000 (.call pa41.f pa41.args) pa41.heap (keptK pa41) = some (.bool true) := by kernel_rfl
theorem pa41_h : pa41.holds EE := ent_run envOk (fun _ h => by cases h) _ _ pa41_ok pa41_run
-- decani/cold.Clean, 6109 steps
noncomputable def pa47 : Ent :=
  ⟨15, [.agg ⟨[iP 3, iP 5, iP 1, iP 0, iP 1, iP 1, iP 1, iP 1, .slice none 0 0, iP 0, .slice none 0 0]⟩], 6,
   gB,
   [],
   .tuple ⟨[.slice none 0 0, iP 0]⟩⟩
theorem pa47_ok : pa47.okS EE.G = true := by kernel_rfl
theorem pa47_run : evT EE [] 1000000000 (.call pa47.f pa47.args) pa47.heap (keptK pa47) = some (.bool true) := by kernel_rfl
theorem pa47_h : pa47.holds EE := ent_run envOk (fun _ h => by cases h) _ _ pa47_ok pa47_run
-- decani/office.open, 5663 steps
noncomputable def pa53 : Ent :=
  ⟨36, [.agg ⟨[iP 5, iP 0, .slice (some ⟨6, 0, none⟩) 2 18446744073709551616, .slice (some ⟨7, 0, none⟩) 1 1, .bool false, .slice none 0 0, .bool false, .slice none 0 0]⟩, .bool true], 8,
   gB ++ [(6, .cells true 4 [iP 1, iP 1, iP 1, iP 1, iP 1, iP 1]),
    (7, .cells true 0 [iP 1, iP 1, iP 1])],
   [],
   .tuple ⟨[.agg ⟨[iP 5, iP 0, .slice (some ⟨6, 0, none⟩) 2 18446744073709551616, .slice (some ⟨7, 0, none⟩) 1 1, .bool false, .slice none 0 0, .bool false, .slice none 0 0]⟩, iP 0]⟩⟩
theorem pa53_ok : pa53.okS EE.G = true := by kernel_rfl
theorem pa53_run : evT EE [] 1000000000 (.call pa53.f pa53.args) pa53.heap (keptK pa53) = some (.bool true) := by kernel_rfl
theorem pa53_h : pa53.holds EE := ent_run envOk (fun _ h => by cases h) _ _ pa53_ok pa53_run
-- decani/cold.Clean, 5514 steps
noncomputable def pa58 : Ent :=
  ⟨15, [.agg ⟨[iP 4, iP 1, iP 1, iP 0, iP 1, iP 1, iP 1, iP 1, .slice none 0 0, iP 0, .slice none 0 0]⟩], 6,
   gB,
   [.cells true 2 [iP 1, iP 2, iP 3]],
   .tuple ⟨[.slice (some ⟨6, 0, none⟩) 3 18446744073709551616, iP 0]⟩⟩
theorem pa58_ok : pa58.okS EE.G = true := by kernel_rfl
theorem pa58_run : evT EE [] 1000000000 (.call pa58.f pa58.args) pa58.heap (keptK pa58) = some (.bool true) := by kernel_rfl
theorem pa58_h : pa58.holds EE := ent_run envOk (fun _ h => by cases h) _ _ pa58_ok pa58_run
-- decani/office.open, 4903 steps
noncomputable def pa65 : Ent :=
  ⟨36, [.agg ⟨[iP 4, iP 0, .slice (some ⟨6, 0, none⟩) 2 18446744073709551616, .slice (some ⟨7, 0, none⟩) 1 1, .bool false, .slice none 0 0, .bool false, .slice none 0 0]⟩, .bool true], 8,
   gB ++ [(6, .cells true 4 [iP 3, iP 3, iP 1, iP 3, iP 3, iP 1]),
    (7, .cells true 0 [iP 1, iP 1, iP 1])],
   [],
   .tuple ⟨[.agg ⟨[iP 4, iP 0, .slice (some ⟨6, 0, none⟩) 2 18446744073709551616, .slice (some ⟨7, 0, none⟩) 1 1, .bool false, .slice none 0 0, .bool false, .slice none 0 0]⟩, iP 0]⟩⟩
theorem pa65_ok : pa65.okS EE.G = true := by kernel_rfl
theorem pa65_run : evT EE [] 1000000000 (.call pa65.f pa65.args) pa65.heap (keptK pa65) = some (.bool true) := by kernel_rfl
theorem pa65_h : pa65.holds EE := ent_run envOk (fun _ h => by cases h) _ _ pa65_ok pa65_run
-- decani/office.open, 4884 steps
noncomputable def pa69 : Ent :=
  ⟨36, [.agg ⟨[iP 6, iP 0, .slice (some ⟨6, 0, none⟩) 1 18446744073709551616, .slice (some ⟨7, 0, none⟩) 1 1, .bool false, .slice none 0 0, .bool false, .slice none 0 0]⟩, .bool true], 8,
   gB ++ [(6, .cells true 4 [iP 3, iP 3, iP 1]),
    (7, .cells true 0 [iP 1, iP 1, iP 1])],
   [],
   .tuple ⟨[.agg ⟨[iP 6, iP 0, .slice (some ⟨6, 0, none⟩) 1 18446744073709551616, .slice (some ⟨7, 0, none⟩) 1 1, .bool false, .slice none 0 0, .bool false, .slice none 0 0]⟩, iP 0]⟩⟩
theorem pa69_ok : pa69.okS EE.G = true := by kernel_rfl
theorem pa69_run : evT EE [] 1000000000 (.call pa69.f pa69.args) pa69.heap (keptK pa69) = some (.bool true) := by kernel_rfl
theorem pa69_h : pa69.holds EE := ent_run envOk (fun _ h => by cases h) _ _ pa69_ok pa69_run
-- decani/cold.Clean, 4387 steps
noncomputable def pa75 : Ent :=
  ⟨15, [.agg ⟨[iP 3, iP 1, iP 1, iP 0, iP 1, iP 1, iP 1, iP 1, .slice none 0 0, iP 0, .slice none 0 0]⟩], 6,
   gB,
   [.cells true 2 [iP 1, iP 2]],
   .tuple ⟨[.slice (some ⟨6, 0, none⟩) 2 18446744073709551616, iP 0]⟩⟩
theorem pa75_ok : pa75.okS EE.G = true := by kernel_rfl
theorem pa75_run : evT EE [] 1000000000 (.call pa75.f pa75.args) pa75.heap (keptK pa75) = some (.bool true) := by kernel_rfl
theorem pa75_h : pa75.holds EE := ent_run envOk (fun _ h => by cases h) _ _ pa75_ok pa75_run
-- decani/office.open, 4262 steps
noncomputable def pa79 : Ent :=
  ⟨36, [.agg ⟨[iP 5, iP 0, .slice (some ⟨6, 0, none⟩) 1 18446744073709551616, .slice (some ⟨7, 0, none⟩) 1 1, .bool false, .slice none 0 0, .bool false, .slice none 0 0]⟩, .bool true], 8,
   gB ++ [(6, .cells true 4 [iP 1, iP 1, iP 1]),
    (7, .cells true 0 [iP 1, iP 1, iP 1])],
   [],
   .tuple ⟨[.agg ⟨[iP 5, iP 0, .slice (some ⟨6, 0, none⟩) 1 18446744073709551616, .slice (some ⟨7, 0, none⟩) 1 1, .bool false, .slice none 0 0, .bool false, .slice none 0 0]⟩, iP 0]⟩⟩
theorem pa79_ok : pa79.okS EE.G = true := by kernel_rfl
theorem pa79_run : evT EE [] 1000000000 (.call pa79.f pa79.args) pa79.heap (keptK pa79) = some (.bool true) := by kernel_rfl
theorem pa79_h : pa79.holds EE := ent_run envOk (fun _ h => by cases h) _ _ pa79_ok pa79_run
-- decani/cold.Ill, 4230 steps
noncomputable def pa85 : Ent :=
  ⟨12, [.agg ⟨[iP 3, iP 2, iP 1, iP 0, iP 1, iP 1, iP 1, iP 1, .slice none 0 0, iP 0, .slice none 0 0]⟩, iP 2, iP 1], 6,
   gB,
   [],
   .tuple ⟨[iP 0, iP 0]⟩⟩
theorem pa85_ok : pa85.okS EE.G = true := by kernel_rfl
theorem pa85_run : evT EE [] 1000000000 (.call pa85.f pa85.args) pa85.heap (keptK pa85) = some (.bool true) := by kernel_rfl
theorem pa85_h : pa85.holds EE := ent_run envOk (fun _ h => by cases h) _ _ pa85_ok pa85_run
-- decani/cold.Caught, 4077 steps
noncomputable def pa91 : Ent :=
  ⟨10, [.agg ⟨[iP 4, iP 4, iP 1, iP 0, iP 1, iP 1, iP 1, iP 1, .slice none 0 0, iP 0, .slice none 0 0]⟩, iP 3], 6,
   gB,
   [],
   .tuple ⟨[.agg ⟨[iP 3, iP 3]⟩, iP 0]⟩⟩
theorem pa91_ok : pa91.okS EE.G = true := by kernel_rfl
theorem pa91_run : evT EE [] 1000000000 (.call pa91.f pa91.args) pa91.heap (keptK pa91) = some (.bool true) := by kernel_rfl
theorem pa91_h : pa91.holds EE := ent_run envOk (fun _ h => by cases h) _ _ pa91_ok pa91_run
-- decani/cold.Caught, 4077 steps
noncomputable def pa97 : Ent :=
  ⟨10, [.agg ⟨[iP 4, iP 6, iP 1, iP 0, iP 1, iP 1, iP 1, iP 1, .slice none 0 0, iP 0, .slice none 0 0]⟩, iP 1], 6,
   gB,
   [],
   .tuple ⟨[.agg ⟨[iP 1, iP 1]⟩, iP 0]⟩⟩
theorem pa97_ok : pa97.okS EE.G = true := by kernel_rfl
theorem pa97_run : evT EE [] 1000000000 (.call pa97.f pa97.args) pa97.heap (keptK pa97) = some (.bool true) := by kernel_rfl
theorem pa97_h : pa97.holds EE := ent_run envOk (fun _ h => by cases h) _ _ pa97_ok pa97_run
-- decani/cold.Ill, 4075 steps
noncomputable def pa103 : Ent :=
  ⟨12, [.agg ⟨[iP 4, iP 4, iP 1, iP 0, iP 1, iP 1, iP 1, iP 1, .slice none 0 0, iP 0, .slice none 0 0]⟩, iP 3, iP 3], 6,
   gB,
   [],
   .tuple ⟨[iP 2, iP 0]⟩⟩
theorem pa103_ok : pa103.okS EE.G = true := by kernel_rfl
theorem pa103_run : evT EE [] 1000000000 (.call pa103.f pa103.args) pa103.heap (keptK pa103) = some (.bool true) := by kernel_rfl
theorem pa103_h : pa103.holds EE := ent_run envOk (fun _ h => by cases h) _ _ pa103_ok pa103_run
-- decani/cold.Ill, 4075 steps
noncomputable def pa109 : Ent :=
  ⟨12, [.agg ⟨[iP 4, iP 6, iP 1, iP 0, iP 1, iP 1, iP 1, iP 1, .slice none 0 0, iP 0, .slice none 0 0]⟩, iP 1, iP 5], 6,
   gB,
   [],
   .tuple ⟨[iP 2, iP 0]⟩⟩
theorem pa109_ok : pa109.okS EE.G = true := by kernel_rfl
theorem pa109_run : evT EE [] 1000000000 (.call pa109.f pa109.args) pa109.heap (keptK pa109) = some (.bool true) := by kernel_rfl
theorem pa109_h : pa109.holds EE := ent_run envOk (fun _ h => by cases h) _ _ pa109_ok pa109_run
-- decani/cold.Clean, 3923 steps
noncomputable def pa116 : Ent :=
  ⟨15, [.agg ⟨[iP 2, iP 6, iP 1, iP 0, iP 1, iP 1, iP 1, iP 1, .slice none 0 0, iP 0, .slice none 0 0]⟩], 6,
   gB,
   [],
   .tuple ⟨[.slice none 0 0, iP 0]⟩⟩
theorem pa116_ok : pa116.okS EE.G = true := by kernel_rfl
theorem pa116_run : evT EE [] 1000000000 (.call pa116.f pa116.args) pa116.heap (keptK pa116) = some (.bool true) := by kernel_rfl
theorem pa116_h : pa116.holds EE := ent_run envOk (fun _ h => by cases h) _ _ pa116_ok pa116_run
-- decani/cold.Ill, 3617 steps
noncomputable def pa125 : Ent :=
  ⟨12, [.agg ⟨[iP 4, iP 3, iP 1, iP 0, iP 1, iP 1, iP 1, iP 1, .slice none 0 0, iP 0, .slice none 0 0]⟩, iP 0, iP 2], 6,
   gB,
   [],
   .tuple ⟨[iP 2, iP 0]⟩⟩
theorem pa125_ok : pa125.okS EE.G = true := by kernel_rfl
theorem pa125_run : evT EE [] 1000000000 (.call pa125.f pa125.args) pa125.heap (keptK pa125) = some (.bool true) := by kernel_rfl
theorem pa125_h : pa125.holds EE := ent_run envOk (fun _ h => by cases h) _ _ pa125_ok pa125_run
-- decani/cold.Caught, 3518 steps
noncomputable def pa131 : Ent :=
  ⟨10, [.agg ⟨[iP 3, iP 3, iP 1, iP 0, iP 1, iP 1, iP 1, iP 1, .slice none 0 0, iP 0, .slice none 0 0]⟩, iP 1], 6,
   gB,
   [],
   .tuple ⟨[.agg ⟨[iP 1, iP 1]⟩, iP 0]⟩⟩
theorem pa131_ok : pa131.okS EE.G = true := by kernel_rfl
theorem pa131_run : evT EE [] 1000000000 (.call pa131.f pa131.args) pa131.heap (keptK pa131) = some (.bool true) := by kernel_rfl
theorem pa131_h : pa131.holds EE := ent_run envOk (fun _ h => by cases h) _ _ pa131_ok pa131_run
-- decani/cold.Caught, 3518 steps
noncomputable def pa137 : Ent :=
  ⟨10, [.agg ⟨[iP 3, iP 5, iP 1, iP 0, iP 1, iP 1, iP 1, iP 1, .slice none 0 0, iP 0, .slice none 0 0]⟩, iP 2], 6,
   gB,
   [],
   .tuple ⟨[.agg ⟨[iP 2, iP 2]⟩, iP 0]⟩⟩
theorem pa137_ok : pa137.okS EE.G = true := by kernel_rfl
theorem pa137_run : evT EE [] 1000000000 (.call pa137.f pa137.args) pa137.heap (keptK pa137) = some (.bool true) := by kernel_rfl
theorem pa137_h : pa137.holds EE := ent_run envOk (fun _ h => by cases h) _ _ pa137_ok pa137_run
-- decani/cold.Ill, 3516 steps
noncomputable def pa143 : Ent :=
  ⟨12, [.agg ⟨[iP 3, iP 3, iP 1, iP 0, iP 1, iP 1, iP 1, iP 1, .slice none 0 0, iP 0, .slice none 0 0]⟩, iP 2, iP 2], 6,
   gB,
   [],
   .tuple ⟨[iP 2, iP 0]⟩⟩
theorem pa143_ok : pa143.okS EE.G = true := by kernel_rfl
theorem pa143_run : evT EE [] 1000000000 (.call pa143.f pa143.args) pa143.heap (keptK pa143) = some (.bool true) := by kernel_rfl
theorem pa143_h : pa143.holds EE := ent_run envOk (fun _ h => by cases h) _ _ pa143_ok pa143_run
-- decani/cold.Ill, 3516 steps
noncomputable def pa149 : Ent :=
  ⟨12, [.agg ⟨[iP 3, iP 5, iP 1, iP 0, iP 1, iP 1, iP 1, iP 1, .slice none 0 0, iP 0, .slice none 0 0]⟩, iP 2, iP 4], 6,
   gB,
   [],
   .tuple ⟨[iP 2, iP 0]⟩⟩
theorem pa149_ok : pa149.okS EE.G = true := by kernel_rfl
theorem pa149_run : evT EE [] 1000000000 (.call pa149.f pa149.args) pa149.heap (keptK pa149) = some (.bool true) := by kernel_rfl
theorem pa149_h : pa149.holds EE := ent_run envOk (fun _ h => by cases h) _ _ pa149_ok pa149_run
-- decani/cold.Ill, 3474 steps
noncomputable def pa155 : Ent :=
  ⟨12, [.agg ⟨[iP 4, iP 1, iP 1, iP 0, iP 1, iP 1, iP 1, iP 1, .slice none 0 0, iP 0, .slice none 0 0]⟩, iP 2, iP 0], 6,
   gB,
   [],
   .tuple ⟨[iP 0, iP 0]⟩⟩
theorem pa155_ok : pa155.okS EE.G = true := by kernel_rfl
theorem pa155_run : evT EE [] 1000000000 (.call pa155.f pa155.args) pa155.heap (keptK pa155) = some (.bool true) := by kernel_rfl
theorem pa155_h : pa155.holds EE := ent_run envOk (fun _ h => by cases h) _ _ pa155_ok pa155_run
-- decani/cold.Clean, 3326 steps
noncomputable def pa161 : Ent :=
  ⟨15, [.agg ⟨[iP 2, iP 1, iP 1, iP 0, iP 1, iP 1, iP 1, iP 1, .slice none 0 0, iP 0, .slice none 0 0]⟩], 6,
   gB,
   [.cells true 2 [iP 1]],
   .tuple ⟨[.slice (some ⟨6, 0, none⟩) 1 18446744073709551616, iP 0]⟩⟩
theorem pa161_ok : pa161.okS EE.G = true := by kernel_rfl
theorem pa161_run : evT EE [] 1000000000 (.call pa161.f pa161.args) pa161.heap (keptK pa161) = some (.bool true) := by kernel_rfl
theorem pa161_h : pa161.holds EE := ent_run envOk (fun _ h => by cases h) _ _ pa161_ok pa161_run
-- decani/part.Ways, 3261 steps
noncomputable def pa162 : Ent :=
  ⟨23, [.agg ⟨[iP 1, .slice (some ⟨6, 0, none⟩) 2 2, iP 0, iP 254, iP 0, .slice none 0 0]⟩], 7,
   gB ++ [(6, .cells true 0 [iP 0, iP 1, iP 1, iP 2])],
   [],
   .tuple ⟨[iP 3, iP 0]⟩⟩
theorem pa162_ok : pa162.okS EE.G = true := by kernel_rfl
theorem pa162_run : evT EE [] 1000000000 (.call pa162.f pa162.args) pa162.heap (keptK pa162) = some (.bool true) := by kernel_rfl
theorem pa162_h : pa162.holds EE := ent_run envOk (fun _ h => by cases h) _ _ pa162_ok pa162_run
-- decani/office.open, 3018 steps
noncomputable def pa173 : Ent :=
  ⟨36, [.agg ⟨[iP 3, iP 0, .slice (some ⟨6, 0, none⟩) 1 18446744073709551616, .slice (some ⟨7, 0, none⟩) 1 1, .bool false, .slice none 0 0, .bool false, .slice none 0 0]⟩, .bool true], 8,
   gB ++ [(6, .cells true 4 [iP 2, iP 2, iP 1]),
    (7, .cells true 0 [iP 1, iP 1, iP 1])],
   [],
   .tuple ⟨[.agg ⟨[iP 3, iP 0, .slice (some ⟨6, 0, none⟩) 1 18446744073709551616, .slice (some ⟨7, 0, none⟩) 1 1, .bool false, .slice none 0 0, .bool false, .slice none 0 0]⟩, iP 0]⟩⟩
theorem pa173_ok : pa173.okS EE.G = true := by kernel_rfl
theorem pa173_run : evT EE [] 1000000000 (.call pa173.f pa173.args) pa173.heap (keptK pa173) = some (.bool true) := by kernel_rfl
theorem pa173_h : pa173.holds EE := ent_run envOk (fun _ h => by cases h) _ _ pa173_ok pa173_run
-- decani/cold.Caught, 2959 steps
noncomputable def pa179 : Ent :=
  ⟨10, [.agg ⟨[iP 2, iP 3, iP 1, iP 0, iP 1, iP 1, iP 1, iP 1, .slice none 0 0, iP 0, .slice none 0 0]⟩, iP 0], 6,
   gB,
   [],
   .tuple ⟨[.agg ⟨[iP 0, iP 0]⟩, iP 0]⟩⟩
theorem pa179_ok : pa179.okS EE.G = true := by kernel_rfl
theorem pa179_run : evT EE [] 1000000000 (.call pa179.f pa179.args) pa179.heap (keptK pa179) = some (.bool true) := by kernel_rfl
theorem pa179_h : pa179.holds EE := ent_run envOk (fun _ h => by cases h) _ _ pa179_ok pa179_run
-- decani/cold.Caught, 2959 steps
noncomputable def pa185 : Ent :=
  ⟨10, [.agg ⟨[iP 2, iP 6, iP 1, iP 0, iP 1, iP 1, iP 1, iP 1, .slice none 0 0, iP 0, .slice none 0 0]⟩, iP 0], 6,
   gB,
   [],
   .tuple ⟨[.agg ⟨[iP 0, iP 0]⟩, iP 0]⟩⟩
theorem pa185_ok : pa185.okS EE.G = true := by kernel_rfl
theorem pa185_run : evT EE [] 1000000000 (.call pa185.f pa185.args) pa185.heap (keptK pa185) = some (.bool true) := by kernel_rfl
theorem pa185_h : pa185.holds EE := ent_run envOk (fun _ h => by cases h) _ _ pa185_ok pa185_run
-- decani/cold.Ill, 2957 steps
noncomputable def pa191 : Ent :=
  ⟨12, [.agg ⟨[iP 2, iP 4, iP 1, iP 0, iP 1, iP 1, iP 1, iP 1, .slice none 0 0, iP 0, .slice none 0 0]⟩, iP 0, iP 3], 6,
   gB,
   [],
   .tuple ⟨[iP 2, iP 0]⟩⟩
theorem pa191_ok : pa191.okS EE.G = true := by kernel_rfl
theorem pa191_run : evT EE [] 1000000000 (.call pa191.f pa191.args) pa191.heap (keptK pa191) = some (.bool true) := by kernel_rfl
theorem pa191_h : pa191.holds EE := ent_run envOk (fun _ h => by cases h) _ _ pa191_ok pa191_run
-- decani/office.open, 2755 steps
noncomputable def pa197 : Ent :=
  ⟨36, [.agg ⟨[iP 1, iP 0, .slice (some ⟨6, 0, none⟩) 2 18446744073709551616, .slice (some ⟨7, 0, none⟩) 1 1, .bool false, .slice none 0 0, .bool false, .slice none 0 0]⟩, .bool true], 8,
   gB ++ [(6, .cells true 4 [iP 0, iP 0, iP 1, iP 0, iP 0, iP 1]),
    (7, .cells true 0 [iP 1, iP 1, iP 1])],
   [],
   .tuple ⟨[.agg ⟨[iP 1, iP 0, .slice (some ⟨6, 0, none⟩) 2 18446744073709551616, .slice (some ⟨7, 0, none⟩) 1 1, .bool false, .slice none 0 0, .bool false, .slice none 0 0]⟩, iP 0]⟩⟩
theorem pa197_ok : pa197.okS EE.G = true := by kernel_rfl
theorem pa197_run : evT EE [] 1000000000 (.call pa197.f pa197.args) pa197.heap (keptK pa197) = some (.bool true) := by kernel_rfl
theorem pa197_h : pa197.holds EE := ent_run envOk (fun _ h => by cases h) _ _ pa197_ok pa197_run
-- decani/cold.Caught, 2567 steps
noncomputable def pa198 : Ent :=
  ⟨10, [.agg ⟨[iP 4, iP 1, iP 1, iP 0, iP 1, iP 1, iP 1, iP 1, .slice none 0 0, iP 0, .slice none 0 0]⟩, iP 0], 6,
   gB,
   [],
   .tuple ⟨[.agg ⟨[iP 0, iP 0]⟩, iP 0]⟩⟩
theorem pa198_ok : pa198.okS EE.G = true := by kernel_rfl
theorem pa198_run : evT EE [] 1000000000 (.call pa198.f pa198.args) pa198.heap (keptK pa198) = some (.bool true) := by kernel_rfl
theorem pa198_h : pa198.holds EE := ent_run envOk (fun _ h => by cases h) _ _ pa198_ok pa198_run
-- decani/cold.Caught, 2484 steps
noncomputable def pa204 : Ent :=
  ⟨10, [.agg ⟨[iP 4, iP 1, iP 1, iP 0, iP 1, iP 1, iP 1, iP 1, .slice none 0 0, iP 0, .slice none 0 0]⟩, iP 1], 6,
   gB,
   [],
   .tuple ⟨[.agg ⟨[iP 0, iP 0]⟩, iP 4]⟩⟩
theorem pa204_ok : pa204.okS EE.G = true := by kernel_rfl
theorem pa204_run : evT EE [] 1000000000 (.call pa204.f pa204.args) pa204.heap (keptK pa204) = some (.bool true) := by kernel_rfl
theorem pa204_h : pa204.holds EE := ent_run envOk (fun _ h => by cases h) _ _ pa204_ok pa204_run
-- decani/cold.Caught, 2400 steps
noncomputable def pa210 : Ent :=
  ⟨10, [.agg ⟨[iP 1, iP 1, iP 1, iP 0, iP 1, iP 1, iP 1, iP 1, .slice none 0 0, iP 0, .slice none 0 0]⟩, iP 0], 6,
   gB,
   [],
   .tuple ⟨[.agg ⟨[iP 0, iP 0]⟩, iP 0]⟩⟩
theorem pa210_ok : pa210.okS EE.G = true := by kernel_rfl
theorem pa210_run : evT EE [] 1000000000 (.call pa210.f pa210.args) pa210.heap (keptK pa210) = some (.bool true) := by kernel_rfl
theorem pa210_h : pa210.holds EE := ent_run envOk (fun _ h => by cases h) _ _ pa210_ok pa210_run
-- decani/cold.Ill, 2398 steps
noncomputable def pa216 : Ent :=
  ⟨12, [.agg ⟨[iP 1, iP 1, iP 1, iP 0, iP 1, iP 1, iP 1, iP 1, .slice none 0 0, iP 0, .slice none 0 0]⟩, iP 0, iP 0], 6,
   gB,
   [],
   .tuple ⟨[iP 2, iP 0]⟩⟩
theorem pa216_ok : pa216.okS EE.G = true := by kernel_rfl
theorem pa216_run : evT EE [] 1000000000 (.call pa216.f pa216.args) pa216.heap (keptK pa216) = some (.bool true) := by kernel_rfl
theorem pa216_h : pa216.holds EE := ent_run envOk (fun _ h => by cases h) _ _ pa216_ok pa216_run
-- decani/office.open, 2396 steps
noncomputable def pa222 : Ent :=
  ⟨36, [.agg ⟨[iP 2, iP 0, .slice (some ⟨6, 0, none⟩) 1 18446744073709551616, .slice (some ⟨7, 0, none⟩) 1 1, .bool false, .slice none 0 0, .bool false, .slice none 0 0]⟩, .bool true], 8,
   gB ++ [(6, .cells true 4 [iP 0, iP 0, iP 1]),
    (7, .cells true 0 [iP 1, iP 1, iP 1])],
   [],
   .tuple ⟨[.agg ⟨[iP 2, iP 0, .slice (some ⟨6, 0, none⟩) 1 18446744073709551616, .slice (some ⟨7, 0, none⟩) 1 1, .bool false, .slice none 0 0, .bool false, .slice none 0 0]⟩, iP 0]⟩⟩
theorem pa222_ok : pa222.okS EE.G = true := by kernel_rfl
theorem pa222_run : evT EE [] 1000000000 (.call pa222.f pa222.args) pa222.heap (keptK pa222) = some (.bool true) := by kernel_rfl
theorem pa222_h : pa222.holds EE := ent_run envOk (fun _ h => by cases h) _ _ pa222_ok pa222_run
end Go.Proofs.YtmjpnohpmfmdlaaGreatDoor
