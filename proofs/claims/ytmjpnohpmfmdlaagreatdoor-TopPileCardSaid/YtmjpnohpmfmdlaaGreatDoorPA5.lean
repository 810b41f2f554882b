/- Known calls, part 5: what single calls hand back, at small heaps, by the kernel's own run of the evaluator. No conditions. -/
import Derived.Test.YtmjpnohpmfmdlaaGreatDoorEnv
set_option linter.all false
namespace Go.Proofs.YtmjpnohpmfmdlaaGreatDoor
open Go.Ai
set_option maxRecDepth 1000000
-- decani/office.open, 9338 steps
noncomputable def pa5 : Ent :=
  ⟨36, [.agg ⟨[iP 5, iP 0, .slice (some ⟨6, 0, none⟩) 4 18446744073709551616, .slice (some ⟨7, 0, none⟩) 1 1, .bool false, .slice none 0 0, .bool false, .slice none 0 0]⟩, .bool true], 8,
   gB ++ [(6, .cells true 4 [iP 0, iP 0, iP 1, iP 0, iP 0, iP 1, iP 0, iP 0, iP 1, iP 0, iP 0, iP 1]),
    (7, .cells true 0 [iP 1, iP 1, iP 1])],
   [],
   .tuple ⟨[.agg ⟨[iP 5, iP 0, .slice (some ⟨6, 0, none⟩) 4 18446744073709551616, .slice (some ⟨7, 0, none⟩) 1 1, .bool false, .slice none 0 0, .bool false, .slice none 0 0]⟩, iP 0]⟩⟩
theorem pa5_ok : pa5.okS EE.G = true := by kernel_rfl
theorem pa5_run : evT EE [] 1000000000 (.call pa5.f pa5.args) pa5.heap (keptK pa5) = some (.bool true) := by kernel_rfl
theorem pa5_h : pa5.holds EE := ent_run envOk (fun _ h => by cases h) _ _ pa5_ok pa5_run
-- decani/office.open, 9338 steps
noncomputable def pa6 : Ent :=
  ⟨36, [.agg ⟨[iP 5, iP 0, .slice (some ⟨6, 0, none⟩) 4 18446744073709551616, .slice (some ⟨7, 0, none⟩) 1 1, .bool false, .slice none 0 0, .bool false, .slice none 0 0]⟩, .bool true], 8,
   gB ++ [(6, .cells true 4 [iP 1, iP 1, iP 1, iP 1, iP 1, iP 1, iP 1, iP 1, iP 1, iP 1, iP 1, iP 1]),
    (7, .cells true 0 [iP 1, iP 1, iP 1])],
   [],
   .tuple ⟨[.agg ⟨[iP 5, iP 0, .slice (some ⟨6, 0, none⟩) 4 18446744073709551616, .slice (some ⟨7, 0, none⟩) 1 1, .bool false, .slice none 0 0, .bool false, .slice none 0 0]⟩, iP 0]⟩⟩
theorem pa6_ok : pa6.okS EE.G = true := by kernel_rfl
theorem pa6_run : evT EE [] 1000000000 (.call pa6.f pa6.args) pa6.heap (keptK pa6) = some (.bool true) := by kernel_rfl
theorem pa6_h : pa6.holds EE := ent_run envOk (fun _ h => by cases h) _ _ pa6_ok pa6_run
-- decani/cold.Clean, 8821 steps
noncomputable def pa12 : Ent :=
  ⟨15, [.agg ⟨[iP 4, iP 6, iP 1, iP 0, iP 1, iP 1, iP 1, iP 1, .slice none 0 0, iP 0, .slice none 0 0]⟩], 6,
   gB,
   [],
   .tuple ⟨[.slice none 0 0, iP 0]⟩⟩
theorem pa12_ok : pa12.okS EE.G = true := by kernel_rfl
theorem pa12_run : evT EE [] 1000000000 (.call pa12.f pa12.args) pa12.heap (keptK pa12) = some (.bool true) := by kernel_rfl
theorem pa12_h : pa12.holds EE := ent_run envOk (fun _ h => by cases h) _ _ pa12_ok pa12_run
-- decani/cold.Clean, 7832 steps
noncomputable def pa22 : Ent :=
  ⟨15, [.agg ⟨[iP 4, iP 3, iP 1, iP 0, iP 1, iP 1, iP 1, iP 1, .slice none 0 0, iP 0, .slice none 0 0]⟩], 6,
   gB,
   [.cells true 2 [iP 3]],
   .tuple ⟨[.slice (some ⟨6, 0, none⟩) 1 18446744073709551616, iP 0]⟩⟩
theorem pa22_ok : pa22.okS EE.G = true := by kernel_rfl
theorem pa22_run : evT EE [] 1000000000 (.call pa22.f pa22.args) pa22.heap (keptK pa22) = some (.bool true) := by kernel_rfl
theorem pa22_h : pa22.holds EE := ent_run envOk (fun _ h => by cases h) _ _ pa22_ok pa22_run
-- decani/office.open, 7486 steps
noncomputable def pa24 : Ent :=
  ⟨36, [.agg ⟨[iP 3, iP 0, .slice (some ⟨6, 0, none⟩) 4 18446744073709551616, .slice (some ⟨7, 0, none⟩) 1 1, .bool false, .slice none 0 0, .bool false, .slice none 0 0]⟩, .bool true], 8,
   gB ++ [(6, .cells true 4 [iP 0, iP 0, iP 1, iP 0, iP 0, iP 1, iP 0, iP 0, iP 1, iP 0, iP 0, iP 1]),
    (7, .cells true 0 [iP 1, iP 1, iP 1])],
   [],
   .tuple ⟨[.agg ⟨[iP 3, iP 0, .slice (some ⟨6, 0, none⟩) 4 18446744073709551616, .slice (some ⟨7, 0, none⟩) 1 1, .bool false, .slice none 0 0, .bool false, .slice none 0 0]⟩, iP 0]⟩⟩
theorem pa24_ok : pa24.okS EE.G = true := by kernel_rfl
theorem pa24_run : evT EE [] 1000000000 (.call pa24.f pa24.args) pa24.heap (keptK pa24) = some (.bool true) := by kernel_rfl
theorem pa24_h : pa24.holds EE := ent_run envOk (fun _ h => by cases h) _ _ pa24_ok pa24_run
-- decani/office.open, 6976 steps
noncomputable def pa31 : Ent :=
  ⟨36, [.agg ⟨[iP 5, iP 0, .slice (some ⟨6, 0, none⟩) 3 18446744073709551616, .slice (some ⟨7, 0, none⟩) 1 1, .bool false, .slice none 0 0, .bool false, .slice none 0 0]⟩, .bool true], 8,
   gB ++ [(6, .cells true 4 [iP 4, iP 4, iP 1, iP 4, iP 4, iP 1, iP 4, iP 4, iP 1]),
    (7, .cells true 0 [iP 1, iP 1, iP 1])],
   [],
   .tuple ⟨[.agg ⟨[iP 5, iP 0, .slice (some ⟨6, 0, none⟩) 3 18446744073709551616, .slice (some ⟨7, 0, none⟩) 1 1, .bool false, .slice none 0 0, .bool false, .slice none 0 0]⟩, iP 0]⟩⟩
theorem pa31_ok : pa31.okS EE.G = true := by kernel_rfl
theorem pa31_run : evT EE [] 1000000000 (.call pa31.f pa31.args) pa31.heap (keptK pa31) = some (.bool true) := by kernel_rfl
theorem pa31_h : pa31.holds EE := ent_run envOk (fun _ h => by cases h) _ _ pa31_ok pa31_run
-- decani/office.open, 6379 steps
noncomputable def pa40 : Ent :=
  ⟨36, [.agg ⟨[iP 6, iP 0, .slice (some ⟨6, 0, none⟩) 2 18446744073709551616, .slice (some ⟨7, 0, none⟩) 1 1, .bool false, .slice none 0 0, .bool false, .slice none 0 0]⟩, .bool true], 8,
   gB ++ [(6, .cells true 4 [iP 3, iP 3, iP 1, iP 3, iP 3, iP 1]),
    (7, .cells true 0 [iP 1, iP 1, iP 1])],
   [],
   .tuple ⟨[.agg ⟨[iP 6, iP 0, .slice (some ⟨6, 0, none⟩) 2 18446744073709551616, .slice (some ⟨7, 0, none⟩) 1 1, .bool false, .slice none 0 0, .bool false, .slice none 0 0]⟩, iP 0]⟩⟩
theorem pa40_ok : pa40.okS EE.G = true := by kernel_rfl
theorem pa40_run : evT EE [] 1000000000 (.call pa40.f pa40.args) pa40.heap (keptK pa40) = some (.bool true) := by kernel_rfl
theorem pa40_h : pa40.holds EE := ent_run envOk (fun _ h => by cases h) _ _ pa40_ok pa40_run
-- decani/cold.Clean, 6109 steps
noncomputable def pa46 : Ent :=
  ⟨15, [.agg ⟨[iP 3, iP 4, iP 1, iP 0, iP 1, iP 1, iP 1, iP 1, .slice none 0 0, iP 0, .slice none 0 0]⟩], 6,
   gB,
   [],
   .tuple ⟨[.slice none 0 0, iP 0]⟩⟩
theorem pa46_ok : pa46.okS EE.G = true := by kernel_rfl
theorem pa46_run : evT EE [] 1000000000 (.call pa46.f pa46.args) pa46.heap (keptK pa46) = some (.bool true) := by kernel_rfl
theorem pa46_h : pa46.holds EE := ent_run envOk (fun _ h => by cases h) _ _ pa46_ok pa46_run
-- decani/office.open, 5663 steps
noncomputable def pa52 : Ent :=
  ⟨36, [.agg ⟨[iP 5, iP 0, .slice (some ⟨6, 0, none⟩) 2 18446744073709551616, .slice (some ⟨7, 0, none⟩) 1 1, .bool false, .slice none 0 0, .bool false, .slice none 0 0]⟩, .bool true], 8,
   gB ++ [(6, .cells true 4 [iP 0, iP 0, iP 1, iP 0, iP 0, iP 1]),
    (7, .cells true 0 [iP 1, iP 1, iP 1])],
   [],
   .tuple ⟨[.agg ⟨[iP 5, iP 0, .slice (some ⟨6, 0, none⟩) 2 18446744073709551616, .slice (some ⟨7, 0, none⟩) 1 1, .bool false, .slice none 0 0, .bool false, .slice none 0 0]⟩, iP 0]⟩⟩
theorem pa52_ok : pa52.okS EE.G = true := by kernel_rfl
theorem pa52_run : evT EE [] 1000000000 (.call pa52.f pa52.args) pa52.heap (keptK pa52) = some (.bool true) := by kernel_rfl
theorem pa52_h : pa52.holds EE := ent_run envOk (fun _ h => by cases h) _ _ pa52_ok pa52_run
-- decani/office.open, 5619 steps
noncomputable def pa57 : Ent :=
  ⟨36, [.agg ⟨[iP 5, iP 0, .slice (some ⟨6, 0, none⟩) 2 18446744073709551616, .slice (some ⟨7, 0, none⟩) 1 1, .bool false, .slice none 0 0, .bool false, .slice none 0 0]⟩, .bool true], 8,
   gB ++ [(6, .cells true 4 [iP 4, iP 4, iP 1, iP 4, iP 4, iP 1]),
    (7, .cells true 0 [iP 1, iP 1, iP 1])],
   [],
   .tuple ⟨[.agg ⟨[iP 5, iP 0, .slice (some ⟨6, 0, none⟩) 2 18446744073709551616, .slice (some ⟨7, 0, none⟩) 1 1, .bool false, .slice none 0 0, .bool false, .slice none 0 0]⟩, iP 0]⟩⟩
theorem pa57_ok : pa57.okS EE.G = true := by kernel_rfl
theorem pa57_run : evT EE [] 1000000000 (.call pa57.f pa57.args) pa57.heap (keptK pa57) = some (.bool true) := by kernel_rfl
theorem pa57_h : pa57.holds EE := ent_run envOk (fun _ h => by cases h) _ _ pa57_ok pa57_run
-- decani/office.open, 4947 steps
noncomputable def pa64 : Ent :=
  ⟨36, [.agg ⟨[iP 4, iP 0, .slice (some ⟨6, 0, none⟩) 2 18446744073709551616, .slice (some ⟨7, 0, none⟩) 1 1, .bool false, .slice none 0 0, .bool false, .slice none 0 0]⟩, .bool true], 8,
   gB ++ [(6, .cells true 4 [iP 2, iP 2, iP 1, iP 2, iP 2, iP 1]),
    (7, .cells true 0 [iP 1, iP 1, iP 1])],
   [],
   .tuple ⟨[.agg ⟨[iP 4, iP 0, .slice (some ⟨6, 0, none⟩) 2 18446744073709551616, .slice (some ⟨7, 0, none⟩) 1 1, .bool false, .slice none 0 0, .bool false, .slice none 0 0]⟩, iP 0]⟩⟩
theorem pa64_ok : pa64.okS EE.G = true := by kernel_rfl
theorem pa64_run : evT EE [] 1000000000 (.call pa64.f pa64.args) pa64.heap (keptK pa64) = some (.bool true) := by kernel_rfl
theorem pa64_h : pa64.holds EE := ent_run envOk (fun _ h => by cases h) _ _ pa64_ok pa64_run
-- decani/office.open, 4884 steps
noncomputable def pa68 : Ent :=
  ⟨36, [.agg ⟨[iP 6, iP 0, .slice (some ⟨6, 0, none⟩) 1 18446744073709551616, .slice (some ⟨7, 0, none⟩) 1 1, .bool false, .slice none 0 0, .bool false, .slice none 0 0]⟩, .bool true], 8,
   gB ++ [(6, .cells true 4 [iP 2, iP 2, iP 1]),
    (7, .cells true 0 [iP 1, iP 1, iP 1])],
   [],
   .tuple ⟨[.agg ⟨[iP 6, iP 0, .slice (some ⟨6, 0, none⟩) 1 18446744073709551616, .slice (some ⟨7, 0, none⟩) 1 1, .bool false, .slice none 0 0, .bool false, .slice none 0 0]⟩, iP 0]⟩⟩
theorem pa68_ok : pa68.okS EE.G = true := by kernel_rfl
theorem pa68_run : evT EE [] 1000000000 (.call pa68.f pa68.args) pa68.heap (keptK pa68) = some (.bool true) := by kernel_rfl
theorem pa68_h : pa68.holds EE := ent_run envOk (fun _ h => by cases h) _ _ pa68_ok pa68_run
-- decani/office.open, 4546 steps
noncomputable def pa74 : Ent :=
  ⟨36, [.agg ⟨[iP 2, iP 0, .slice (some ⟨6, 0, none⟩) 3 18446744073709551616, .slice (some ⟨7, 0, none⟩) 1 1, .bool false, .slice none 0 0, .bool false, .slice none 0 0]⟩, .bool true], 8,
   gB ++ [(6, .cells true 4 [iP 1, iP 1, iP 1, iP 1, iP 1, iP 1, iP 1, iP 1, iP 1]),
    (7, .cells true 0 [iP 1, iP 1, iP 1])],
   [],
   .tuple ⟨[.agg ⟨[iP 2, iP 0, .slice (some ⟨6, 0, none⟩) 3 18446744073709551616, .slice (some ⟨7, 0, none⟩) 1 1, .bool false, .slice none 0 0, .bool false, .slice none 0 0]⟩, iP 0]⟩⟩
theorem pa74_ok : pa74.okS EE.G = true := by kernel_rfl
theorem pa74_run : evT EE [] 1000000000 (.call pa74.f pa74.args) pa74.heap (keptK pa74) = some (.bool true) := by kernel_rfl
theorem pa74_h : pa74.holds EE := ent_run envOk (fun _ h => by cases h) _ _ pa74_ok pa74_run
-- decani/office.open, 4262 steps
noncomputable def pa80 : Ent :=
  ⟨36, [.agg ⟨[iP 5, iP 0, .slice (some ⟨6, 0, none⟩) 1 18446744073709551616, .slice (some ⟨7, 0, none⟩) 1 1, .bool false, .slice none 0 0, .bool false, .slice none 0 0]⟩, .bool true], 8,
   gB ++ [(6, .cells true 4 [iP 2, iP 2, iP 1]),
    (7, .cells true 0 [iP 1, iP 1, iP 1])],
   [],
   .tuple ⟨[.agg ⟨[iP 5, iP 0, .slice (some ⟨6, 0, none⟩) 1 18446744073709551616, .slice (some ⟨7, 0, none⟩) 1 1, .bool false, .slice none 0 0, .bool false, .slice none 0 0]⟩, iP 0]⟩⟩
theorem pa80_ok : pa80.okS EE.G = true := by kernel_rfl
theorem pa80_run : evT EE [] 1000000000 (.call pa80.f pa80.args) pa80.heap (keptK pa80) = some (.bool true) := by kernel_rfl
theorem pa80_h : pa80.holds EE := ent_run envOk (fun _ h => by cases h) _ _ pa80_ok pa80_run
-- decani/part.Notes, 4190 steps
noncomputable def pa86 : Ent :=
  ⟨25, [.agg ⟨[iP 1, .slice (some ⟨6, 0, none⟩) 2 2, iP 0, iP 254, iP 0, .slice none 0 0]⟩, iP 1, iP 0], 7,
   gB ++ [(6, .cells true 0 [iP 1, iP 1, iP 1, iP 2])],
   [.cells true 2 [iP 2]],
   .tuple ⟨[.slice (some ⟨7, 0, none⟩) 1 18446744073709551616, iP 0]⟩⟩
theorem pa86_ok : pa86.okS EE.G = true := by kernel_rfl
theorem pa86_run : evT EE [] 1000000000 (.call pa86.f pa86.args) pa86.heap (keptK pa86) = some (.bool true) := by kernel_rfl
theorem pa86_h : pa86.holds EE := ent_run envOk (fun _ h => by cases h) _ _ pa86_ok pa86_run
-- decani/cold.Caught, 4077 steps
noncomputable def pa92 : Ent :=
  ⟨10, [.agg ⟨[iP 4, iP 5, iP 1, iP 0, iP 1, iP 1, iP 1, iP 1, .slice none 0 0, iP 0, .slice none 0 0]⟩, iP 0], 6,
   gB,
   [],
   .tuple ⟨[.agg ⟨[iP 0, iP 0]⟩, iP 0]⟩⟩
theorem pa92_ok : pa92.okS EE.G = true := by kernel_rfl
theorem pa92_run : evT EE [] 1000000000 (.call pa92.f pa92.args) pa92.heap (keptK pa92) = some (.bool true) := by kernel_rfl
theorem pa92_h : pa92.holds EE := ent_run envOk (fun _ h => by cases h) _ _ pa92_ok pa92_run
-- decani/cold.Caught, 4077 steps
noncomputable def pa98 : Ent :=
  ⟨10, [.agg ⟨[iP 4, iP 6, iP 1, iP 0, iP 1, iP 1, iP 1, iP 1, .slice none 0 0, iP 0, .slice none 0 0]⟩, iP 2], 6,
   gB,
   [],
   .tuple ⟨[.agg ⟨[iP 2, iP 2]⟩, iP 0]⟩⟩
theorem pa98_ok : pa98.okS EE.G = true := by kernel_rfl
theorem pa98_run : evT EE [] 1000000000 (.call pa98.f pa98.args) pa98.heap (keptK pa98) = some (.bool true) := by kernel_rfl
theorem pa98_h : pa98.holds EE := ent_run envOk (fun _ h => by cases h) _ _ pa98_ok pa98_run
-- decani/cold.Ill, 4075 steps
noncomputable def pa104 : Ent :=
  ⟨12, [.agg ⟨[iP 4, iP 5, iP 1, iP 0, iP 1, iP 1, iP 1, iP 1, .slice none 0 0, iP 0, .slice none 0 0]⟩, iP 0, iP 4], 6,
   gB,
   [],
   .tuple ⟨[iP 2, iP 0]⟩⟩
theorem pa104_ok : pa104.okS EE.G = true := by kernel_rfl
theorem pa104_run : evT EE [] 1000000000 (.call pa104.f pa104.args) pa104.heap (keptK pa104) = some (.bool true) := by kernel_rfl
theorem pa104_h : pa104.holds EE := ent_run envOk (fun _ h => by cases h) _ _ pa104_ok pa104_run
-- decani/cold.Ill, 4075 steps
noncomputable def pa110 : Ent :=
  ⟨12, [.agg ⟨[iP 4, iP 6, iP 1, iP 0, iP 1, iP 1, iP 1, iP 1, .slice none 0 0, iP 0, .slice none 0 0]⟩, iP 2, iP 5], 6,
   gB,
   [],
   .tuple ⟨[iP 2, iP 0]⟩⟩
theorem pa110_ok : pa110.okS EE.G = true := by kernel_rfl
theorem pa110_run : evT EE [] 1000000000 (.call pa110.f pa110.args) pa110.heap (keptK pa110) = some (.bool true) := by kernel_rfl
theorem pa110_h : pa110.holds EE := ent_run envOk (fun _ h => by cases h) _ _ pa110_ok pa110_run
-- decani/office.open, 3736 steps
noncomputable def pa117 : Ent :=
  ⟨36, [.agg ⟨[iP 1, iP 0, .slice (some ⟨6, 0, none⟩) 3 18446744073709551616, .slice (some ⟨7, 0, none⟩) 1 1, .bool false, .slice none 0 0, .bool false, .slice none 0 0]⟩, .bool true], 8,
   gB ++ [(6, .cells true 4 [iP 0, iP 0, iP 1, iP 0, iP 0, iP 1, iP 0, iP 0, iP 1]),
    (7, .cells true 0 [iP 1, iP 1, iP 1])],
   [],
   .tuple ⟨[.agg ⟨[iP 1, iP 0, .slice (some ⟨6, 0, none⟩) 3 18446744073709551616, .slice (some ⟨7, 0, none⟩) 1 1, .bool false, .slice none 0 0, .bool false, .slice none 0 0]⟩, iP 0]⟩⟩
theorem pa117_ok : pa117.okS EE.G = true := by kernel_rfl
theorem pa117_run : evT EE [] 1000000000 (.call pa117.f pa117.args) pa117.heap (keptK pa117) = some (.bool true) := by kernel_rfl
theorem pa117_h : pa117.holds EE := ent_run envOk (fun _ h => by cases h) _ _ pa117_ok pa117_run
-- decani/cold.Caught, 3619 steps
noncomputable def pa122 : Ent :=
  ⟨10, [.agg ⟨[iP 4, iP 3, iP 1, iP 0, iP 1, iP 1, iP 1, iP 1, .slice none 0 0, iP 0, .slice none 0 0]⟩, iP 0], 6,
   gB,
   [],
   .tuple ⟨[.agg ⟨[iP 0, iP 0]⟩, iP 0]⟩⟩
theorem pa122_ok : pa122.okS EE.G = true := by kernel_rfl
theorem pa122_run : evT EE [] 1000000000 (.call pa122.f pa122.args) pa122.heap (keptK pa122) = some (.bool true) := by kernel_rfl
theorem pa122_h : pa122.holds EE := ent_run envOk (fun _ h => by cases h) _ _ pa122_ok pa122_run
-- decani/cold.Caught, 3536 steps
noncomputable def pa128 : Ent :=
  ⟨10, [.agg ⟨[iP 4, iP 3, iP 1, iP 0, iP 1, iP 1, iP 1, iP 1, .slice none 0 0, iP 0, .slice none 0 0]⟩, iP 3], 6,
   gB,
   [],
   .tuple ⟨[.agg ⟨[iP 0, iP 0]⟩, iP 4]⟩⟩
theorem pa128_ok : pa128.okS EE.G = true := by kernel_rfl
theorem pa128_run : evT EE [] 1000000000 (.call pa128.f pa128.args) pa128.heap (keptK pa128) = some (.bool true) := by kernel_rfl
theorem pa128_h : pa128.holds EE := ent_run envOk (fun _ h => by cases h) _ _ pa128_ok pa128_run
-- decani/cold.Caught, 3518 steps
noncomputable def pa133 : Ent :=
  ⟨10, [.agg ⟨[iP 3, iP 4, iP 1, iP 0, iP 1, iP 1, iP 1, iP 1, .slice none 0 0, iP 0, .slice none 0 0]⟩, iP 0], 6,
   gB,
   [],
   .tuple ⟨[.agg ⟨[iP 0, iP 0]⟩, iP 0]⟩⟩
theorem pa133_ok : pa133.okS EE.G = true := by kernel_rfl
theorem pa133_run : evT EE [] 1000000000 (.call pa133.f pa133.args) pa133.heap (keptK pa133) = some (.bool true) := by kernel_rfl
theorem pa133_h : pa133.holds EE := ent_run envOk (fun _ h => by cases h) _ _ pa133_ok pa133_run
-- decani/cold.Caught, 3518 steps
noncomputable def pa139 : Ent :=
  ⟨10, [.agg ⟨[iP 3, iP 6, iP 1, iP 0, iP 1, iP 1, iP 1, iP 1, .slice none 0 0, iP 0, .slice none 0 0]⟩, iP 1], 6,
   gB,
   [],
   .tuple ⟨[.agg ⟨[iP 1, iP 1]⟩, iP 0]⟩⟩
theorem pa139_ok : pa139.okS EE.G = true := by kernel_rfl
theorem pa139_run : evT EE [] 1000000000 (.call pa139.f pa139.args) pa139.heap (keptK pa139) = some (.bool true) := by kernel_rfl
theorem pa139_h : pa139.holds EE := ent_run envOk (fun _ h => by cases h) _ _ pa139_ok pa139_run
-- decani/cold.Ill, 3516 steps
noncomputable def pa145 : Ent :=
  ⟨12, [.agg ⟨[iP 3, iP 4, iP 1, iP 0, iP 1, iP 1, iP 1, iP 1, .slice none 0 0, iP 0, .slice none 0 0]⟩, iP 1, iP 3], 6,
   gB,
   [],
   .tuple ⟨[iP 2, iP 0]⟩⟩
theorem pa145_ok : pa145.okS EE.G = true := by kernel_rfl
theorem pa145_run : evT EE [] 1000000000 (.call pa145.f pa145.args) pa145.heap (keptK pa145) = some (.bool true) := by kernel_rfl
theorem pa145_h : pa145.holds EE := ent_run envOk (fun _ h => by cases h) _ _ pa145_ok pa145_run
-- decani/cold.Ill, 3516 steps
noncomputable def pa151 : Ent :=
  ⟨12, [.agg ⟨[iP 3, iP 6, iP 1, iP 0, iP 1, iP 1, iP 1, iP 1, .slice none 0 0, iP 0, .slice none 0 0]⟩, iP 1, iP 5], 6,
   gB,
   [],
   .tuple ⟨[iP 2, iP 0]⟩⟩
theorem pa151_ok : pa151.okS EE.G = true := by kernel_rfl
theorem pa151_run : evT EE [] 1000000000 (.call pa151.f pa151.args) pa151.heap (keptK pa151) = some (.bool true) := by kernel_rfl
theorem pa151_h : pa151.holds EE := ent_run envOk (fun _ h => by cases h) _ _ pa151_ok pa151_run
-- decani/office.open, 3471 steps
noncomputable def pa157 : Ent :=
  ⟨36, [.agg ⟨[iP 2, iP 0, .slice (some ⟨6, 0, none⟩) 2 18446744073709551616, .slice (some ⟨7, 0, none⟩) 1 1, .bool false, .slice none 0 0, .bool false, .slice none 0 0]⟩, .bool true], 8,
   gB ++ [(6, .cells true 4 [iP 1, iP 1, iP 1, iP 1, iP 1, iP 1]),
    (7, .cells true 0 [iP 1, iP 1, iP 1])],
   [],
   .tuple ⟨[.agg ⟨[iP 2, iP 0, .slice (some ⟨6, 0, none⟩) 2 18446744073709551616, .slice (some ⟨7, 0, none⟩) 1 1, .bool false, .slice none 0 0, .bool false, .slice none 0 0]⟩, iP 0]⟩⟩
theorem pa157_ok : pa157.okS EE.G = true := by kernel_rfl
theorem pa157_run : evT EE [] 1000000000 (.call pa157.f pa157.args) pa157.heap (keptK pa157) = some (.bool true) := by kernel_rfl
theorem pa157_h : pa157.holds EE := ent_run envOk (fun _ h => by cases h) _ _ pa157_ok pa157_run
-- decani/cold.Caught, 3060 steps
noncomputable def pa167 : Ent :=
  ⟨10, [.agg ⟨[iP 3, iP 2, iP 1, iP 0, iP 1, iP 1, iP 1, iP 1, .slice none 0 0, iP 0, .slice none 0 0]⟩, iP 0], 6,
   gB,
   [],
   .tuple ⟨[.agg ⟨[iP 0, iP 0]⟩, iP 0]⟩⟩
theorem pa167_ok : pa167.okS EE.G = true := by kernel_rfl
theorem pa167_run : evT EE [] 1000000000 (.call pa167.f pa167.args) pa167.heap (keptK pa167) = some (.bool true) := by kernel_rfl
theorem pa167_h : pa167.holds EE := ent_run envOk (fun _ h => by cases h) _ _ pa167_ok pa167_run
-- decani/cold.Ill, 3058 steps
noncomputable def pa169 : Ent :=
  ⟨12, [.agg ⟨[iP 3, iP 2, iP 1, iP 0, iP 1, iP 1, iP 1, iP 1, .slice none 0 0, iP 0, .slice none 0 0]⟩, iP 0, iP 1], 6,
   gB,
   [],
   .tuple ⟨[iP 2, iP 0]⟩⟩
theorem pa169_ok : pa169.okS EE.G = true := by kernel_rfl
theorem pa169_run : evT EE [] 1000000000 (.call pa169.f pa169.args) pa169.heap (keptK pa169) = some (.bool true) := by kernel_rfl
theorem pa169_h : pa169.holds EE := ent_run envOk (fun _ h => by cases h) _ _ pa169_ok pa169_run
-- decani/cold.Caught, 2959 steps
noncomputable def pa177 : Ent :=
  ⟨10, [.agg ⟨[iP 2, iP 2, iP 1, iP 0, iP 1, iP 1, iP 1, iP 1, .slice none 0 0, iP 0, .slice none 0 0]⟩, iP 0], 6,
   gB,
   [],
   .tuple ⟨[.agg ⟨[iP 0, iP 0]⟩, iP 0]⟩⟩
theorem pa177_ok : pa177.okS EE.G = true := by kernel_rfl
theorem pa177_run : evT EE [] 1000000000 (.call pa177.f pa177.args) pa177.heap (keptK pa177) = some (.bool true) := by kernel_rfl
theorem pa177_h : pa177.holds EE := ent_run envOk (fun _ h => by cases h) _ _ pa177_ok pa177_run
-- decani/cold.Caught, 2959 steps
noncomputable def pa180 : Ent :=
  ⟨10, [.agg ⟨[iP 2, iP 3, iP 1, iP 0, iP 1, iP 1, iP 1, iP 1, .slice none 0 0, iP 0, .slice none 0 0]⟩, iP 1], 6,
   gB,
   [],
   .tuple ⟨[.agg ⟨[iP 1, iP 1]⟩, iP 0]⟩⟩
theorem pa180_ok : pa180.okS EE.G = true := by kernel_rfl
theorem pa180_run : evT EE [] 1000000000 (.call pa180.f pa180.args) pa180.heap (keptK pa180) = some (.bool true) := by kernel_rfl
theorem pa180_h : pa180.holds EE := ent_run envOk (fun _ h => by cases h) _ _ pa180_ok pa180_run
-- decani/cold.Caught, 2959 steps
noncomputable def pa186 : Ent :=
  ⟨10, [.agg ⟨[iP 2, iP 6, iP 1, iP 0, iP 1, iP 1, iP 1, iP 1, .slice none 0 0, iP 0, .slice none 0 0]⟩, iP 1], 6,
   gB,
   [],
   .tuple ⟨[.agg ⟨[iP 1, iP 1]⟩, iP 0]⟩⟩
theorem pa186_ok : pa186.okS EE.G = true := by kernel_rfl
theorem pa186_run : evT EE [] 1000000000 (.call pa186.f pa186.args) pa186.heap (keptK pa186) = some (.bool true) := by kernel_rfl
theorem pa186_h : pa186.holds EE := ent_run envOk (fun _ h => by cases h) _ _ pa186_ok pa186_run
-- decani/cold.Ill, 2957 steps
noncomputable def pa192 : Ent :=
  ⟨12, [.agg ⟨[iP 2, iP 4, iP 1, iP 0, iP 1, iP 1, iP 1, iP 1, .slice none 0 0, iP 0, .slice none 0 0]⟩, iP 1, iP 3], 6,
   gB,
   [],
   .tuple ⟨[iP 2, iP 0]⟩⟩
theorem pa192_ok : pa192.okS EE.G = true := by kernel_rfl
theorem pa192_run : evT EE [] 1000000000 (.call pa192.f pa192.args) pa192.heap (keptK pa192) = some (.bool true) := by kernel_rfl
theorem pa192_h : pa192.holds EE := ent_run envOk (fun _ h => by cases h) _ _ pa192_ok pa192_run
-- decani/cold.Ill, 2565 steps
noncomputable def pa199 : Ent :=
  ⟨12, [.agg ⟨[iP 4, iP 1, iP 1, iP 0, iP 1, iP 1, iP 1, iP 1, .slice none 0 0, iP 0, .slice none 0 0]⟩, iP 0, iP 0], 6,
   gB,
   [],
   .tuple ⟨[iP 2, iP 0]⟩⟩
theorem pa199_ok : pa199.okS EE.G = true := by kernel_rfl
theorem pa199_run : evT EE [] 1000000000 (.call pa199.f pa199.args) pa199.heap (keptK pa199) = some (.bool true) := by kernel_rfl
theorem pa199_h : pa199.holds EE := ent_run envOk (fun _ h => by cases h) _ _ pa199_ok pa199_run
-- decani/cold.Caught, 2418 steps
noncomputable def pa209 : Ent :=
  ⟨10, [.agg ⟨[iP 2, iP 1, iP 1, iP 0, iP 1, iP 1, iP 1, iP 1, .slice none 0 0, iP 0, .slice none 0 0]⟩, iP 1], 6,
   gB,
   [],
   .tuple ⟨[.agg ⟨[iP 0, iP 0]⟩, iP 4]⟩⟩
theorem pa209_ok : pa209.okS EE.G = true := by kernel_rfl
theorem pa209_run : evT EE [] 1000000000 (.call pa209.f pa209.args) pa209.heap (keptK pa209) = some (.bool true) := by kernel_rfl
theorem pa209_h : pa209.holds EE := ent_run envOk (fun _ h => by cases h) _ _ pa209_ok pa209_run
-- decani/cold.Caught, 2400 steps
noncomputable def pa211 : Ent :=
  ⟨10, [.agg ⟨[iP 1, iP 2, iP 1, iP 0, iP 1, iP 1, iP 1, iP 1, .slice none 0 0, iP 0, .slice none 0 0]⟩, iP 0], 6,
   gB,
   [],
   .tuple ⟨[.agg ⟨[iP 0, iP 0]⟩, iP 0]⟩⟩
theorem pa211_ok : pa211.okS EE.G = true := by kernel_rfl
theorem pa211_run : evT EE [] 1000000000 (.call pa211.f pa211.args) pa211.heap (keptK pa211) = some (.bool true) := by kernel_rfl
theorem pa211_h : pa211.holds EE := ent_run envOk (fun _ h => by cases h) _ _ pa211_ok pa211_run
-- decani/cold.Ill, 2398 steps
noncomputable def pa217 : Ent :=
  ⟨12, [.agg ⟨[iP 1, iP 2, iP 1, iP 0, iP 1, iP 1, iP 1, iP 1, .slice none 0 0, iP 0, .slice none 0 0]⟩, iP 0, iP 1], 6,
   gB,
   [],
   .tuple ⟨[iP 2, iP 0]⟩⟩
theorem pa217_ok : pa217.okS EE.G = true := by kernel_rfl
theorem pa217_run : evT EE [] 1000000000 (.call pa217.f pa217.args) pa217.heap (keptK pa217) = some (.bool true) := by kernel_rfl
theorem pa217_h : pa217.holds EE := ent_run envOk (fun _ h => by cases h) _ _ pa217_ok pa217_run
-- decani/office.open, 2396 steps
noncomputable def pa223 : Ent :=
  ⟨36, [.agg ⟨[iP 2, iP 0, .slice (some ⟨6, 0, none⟩) 1 18446744073709551616, .slice (some ⟨7, 0, none⟩) 1 1, .bool false, .slice none 0 0, .bool false, .slice none 0 0]⟩, .bool true], 8,
   gB ++ [(6, .cells true 4 [iP 1, iP 1, iP 1]),
    (7, .cells true 0 [iP 1, iP 1, iP 1])],
   [],
   .tuple ⟨[.agg ⟨[iP 2, iP 0, .slice (some ⟨6, 0, none⟩) 1 18446744073709551616, .slice (some ⟨7, 0, none⟩) 1 1, .bool false, .slice none 0 0, .bool false, .slice none 0 0]⟩, iP 0]⟩⟩
theorem pa223_ok : pa223.okS EE.G = true := by kernel_rfl
theorem pa223_run : evT EE [] 1000000000 (.call pa223.f pa223.args) pa223.heap (keptK pa223) = some (.bool true) := by kernel_rfl
theorem pa223_h : pa223.holds EE := ent_run envOk (fun _ h => by cases h) _ _ pa223_ok pa223_run
end Go.Proofs.YtmjpnohpmfmdlaaGreatDoor
