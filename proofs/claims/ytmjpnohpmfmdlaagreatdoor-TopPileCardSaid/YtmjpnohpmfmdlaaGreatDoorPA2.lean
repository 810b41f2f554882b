/- Known calls, part 2: what single calls hand back, at small heaps, by the kernel's own run of the evaluator. No conditions. -/
import Derived.Test.YtmjpnohpmfmdlaaGreatDoorEnv
set_option linter.all false
namespace Go.Proofs.YtmjpnohpmfmdlaaGreatDoor
open Go.Ai
set_option maxRecDepth 1000000
-- decani/office.open, 10242 steps
noncomputable def pa2 : Ent :=
  ⟨36, [.agg ⟨[iP 6, iP 0, .slice (some ⟨6, 0, none⟩) 4 18446744073709551616, .slice (some ⟨7, 0, none⟩) 1 1, .bool false, .slice none 0 0, .bool false, .slice none 0 0]⟩, .bool true], 8,
   gB ++ [(6, .cells true 4 [iP 2, iP 2, iP 1, iP 2, iP 2, iP 1, iP 2, iP 2, iP 1, iP 2, iP 2, iP 1]),
    (7, .cells true 0 [iP 1, iP 1, iP 1])],
   [],
   .tuple ⟨[.agg ⟨[iP 6, iP 0, .slice (some ⟨6, 0, none⟩) 4 18446744073709551616, .slice (some ⟨7, 0, none⟩) 1 1, .bool false, .slice none 0 0, .bool false, .slice none 0 0]⟩, iP 0]⟩⟩
theorem pa2_ok : pa2.okS EE.G = true := by kernel_rfl
theorem pa2_run : evT EE [] 1000000000 (.call pa2.f pa2.args) pa2.heap (keptK pa2) = some (.bool true) := by kernel_rfl
theorem pa2_h : pa2.holds EE := ent_run envOk (fun _ h => by cases h) _ _ pa2_ok pa2_run
-- decani/cold.Clean, 8821 steps
noncomputable def pa11 : Ent :=
  ⟨15, [.agg ⟨[iP 4, iP 5, iP 1, iP 0, iP 1, iP 1, iP 1, iP 1, .slice none 0 0, iP 0, .slice none 0 0]⟩], 6,
   gB,
   [],
   .tuple ⟨[.slice none 0 0, iP 0]⟩⟩
theorem pa11_ok : pa11.okS EE.G = true := by kernel_rfl
theorem pa11_run : evT EE [] 1000000000 (.call pa11.f pa11.args) pa11.heap (keptK pa11) = some (.bool true) := by kernel_rfl
theorem pa11_h : pa11.holds EE := ent_run envOk (fun _ h => by cases h) _ _ pa11_ok pa11_run
-- decani/office.open, 8390 steps
noncomputable def pa14 : Ent :=
  ⟨36, [.agg ⟨[iP 4, iP 0, .slice (some ⟨6, 0, none⟩) 4 18446744073709551616, .slice (some ⟨7, 0, none⟩) 1 1, .bool false, .slice none 0 0, .bool false, .slice none 0 0]⟩, .bool true], 8,
   gB ++ [(6, .cells true 4 [iP 1, iP 1, iP 1, iP 1, iP 1, iP 1, iP 1, iP 1, iP 1, iP 1, iP 1, iP 1]),
    (7, .cells true 0 [iP 1, iP 1, iP 1])],
   [],
   .tuple ⟨[.agg ⟨[iP 4, iP 0, .slice (some ⟨6, 0, none⟩) 4 18446744073709551616, .slice (some ⟨7, 0, none⟩) 1 1, .bool false, .slice none 0 0, .bool false, .slice none 0 0]⟩, iP 0]⟩⟩
theorem pa14_ok : pa14.okS EE.G = true := by kernel_rfl
theorem pa14_run : evT EE [] 1000000000 (.call pa14.f pa14.args) pa14.heap (keptK pa14) = some (.bool true) := by kernel_rfl
theorem pa14_h : pa14.holds EE := ent_run envOk (fun _ h => by cases h) _ _ pa14_ok pa14_run
-- decani/office.open, 8165 steps
noncomputable def pa19 : Ent :=
  ⟨36, [.agg ⟨[iP 6, iP 0, .slice (some ⟨6, 0, none⟩) 3 18446744073709551616, .slice (some ⟨7, 0, none⟩) 1 1, .bool false, .slice none 0 0, .bool false, .slice none 0 0]⟩, .bool true], 8,
   gB ++ [(6, .cells true 4 [iP 3, iP 3, iP 1, iP 3, iP 3, iP 1, iP 3, iP 3, iP 1]),
    (7, .cells true 0 [iP 1, iP 1, iP 1])],
   [],
   .tuple ⟨[.agg ⟨[iP 6, iP 0, .slice (some ⟨6, 0, none⟩) 3 18446744073709551616, .slice (some ⟨7, 0, none⟩) 1 1, .bool false, .slice none 0 0, .bool false, .slice none 0 0]⟩, iP 0]⟩⟩
theorem pa19_ok : pa19.okS EE.G = true := by kernel_rfl
theorem pa19_run : evT EE [] 1000000000 (.call pa19.f pa19.args) pa19.heap (keptK pa19) = some (.bool true) := by kernel_rfl
theorem pa19_h : pa19.holds EE := ent_run envOk (fun _ h => by cases h) _ _ pa19_ok pa19_run
-- decani/office.open, 7311 steps
noncomputable def pa29 : Ent :=
  ⟨36, [.agg ⟨[iP 5, iP 0, .slice (some ⟨6, 0, none⟩) 3 18446744073709551616, .slice (some ⟨7, 0, none⟩) 1 1, .bool false, .slice none 0 0, .bool false, .slice none 0 0]⟩, .bool true], 8,
   gB ++ [(6, .cells true 4 [iP 3, iP 3, iP 1, iP 3, iP 3, iP 1, iP 3, iP 3, iP 1]),
    (7, .cells true 0 [iP 1, iP 1, iP 1])],
   [],
   .tuple ⟨[.agg ⟨[iP 5, iP 0, .slice (some ⟨6, 0, none⟩) 3 18446744073709551616, .slice (some ⟨7, 0, none⟩) 1 1, .bool false, .slice none 0 0, .bool false, .slice none 0 0]⟩, iP 0]⟩⟩
theorem pa29_ok : pa29.okS EE.G = true := by kernel_rfl
theorem pa29_run : evT EE [] 1000000000 (.call pa29.f pa29.args) pa29.heap (keptK pa29) = some (.bool true) := by kernel_rfl
theorem pa29_h : pa29.holds EE := ent_run envOk (fun _ h => by cases h) _ _ pa29_ok pa29_run
-- decani/office.open, 6545 steps
noncomputable def pa34 : Ent :=
  ⟨36, [.agg ⟨[iP 4, iP 0, .slice (some ⟨6, 0, none⟩) 3 18446744073709551616, .slice (some ⟨7, 0, none⟩) 1 1, .bool false, .slice none 0 0, .bool false, .slice none 0 0]⟩, .bool true], 8,
   gB ++ [(6, .cells true 4 [iP 1, iP 1, iP 1, iP 1, iP 1, iP 1, iP 1, iP 1, iP 1]),
    (7, .cells true 0 [iP 1, iP 1, iP 1])],
   [],
   .tuple ⟨[.agg ⟨[iP 4, iP 0, .slice (some ⟨6, 0, none⟩) 3 18446744073709551616, .slice (some ⟨7, 0, none⟩) 1 1, .bool false, .slice none 0 0, .bool false, .slice none 0 0]⟩, iP 0]⟩⟩
theorem pa34_ok : pa34.okS EE.G = true := by kernel_rfl
theorem pa34_run : evT EE [] 1000000000 (.call pa34.f pa34.args) pa34.heap (keptK pa34) = some (.bool true) := by kernel_rfl
theorem pa34_h : pa34.holds EE := ent_run envOk (fun _ h => by cases h) _ _ pa34_ok pa34_run
-- decani/office.open, 6379 steps
noncomputable def pa37 : Ent :=
  ⟨36, [.agg ⟨[iP 6, iP 0, .slice (some ⟨6, 0, none⟩) 2 18446744073709551616, .slice (some ⟨7, 0, none⟩) 1 1, .bool false, .slice none 0 0, .bool false, .slice none 0 0]⟩, .bool true], 8,
   gB ++ [(6, .cells true 4 [iP 0, iP 0, iP 1, iP 0, iP 0, iP 1]),
    (7, .cells true 0 [iP 1, iP 1, iP 1])],
   [],
   .tuple ⟨[.agg ⟨[iP 6, iP 0, .slice (some ⟨6, 0, none⟩) 2 18446744073709551616, .slice (some ⟨7, 0, none⟩) 1 1, .bool false, .slice none 0 0, .bool false, .slice none 0 0]⟩, iP 0]⟩⟩
theorem pa37_ok : pa37.okS EE.G = true := by kernel_rfl
theorem pa37_run : evT EE [] 1000000000 (.call pa37.f pa37.args) pa37.heap (keptK pa37) = some (.bool true) := by kernel_rfl
theorem pa37_h : pa37.holds EE := ent_run envOk (fun _ h => by cases h) _ _ pa37_ok pa37_run
-- decani/office.open, 6335 steps
noncomputable def pa42 : Ent :=
  ⟨36, [.agg ⟨[iP 6, iP 0, .slice (some ⟨6, 0, none⟩) 2 18446744073709551616, .slice (some ⟨7, 0, none⟩) 1 1, .bool false, .slice none 0 0, .bool false, .slice none 0 0]⟩, .bool true], 8,
   gB ++ [(6, .cells true 4 [iP 5, iP 5, iP 1, iP 5, iP 5, iP 1]),
    (7, .cells true 0 [iP 1, iP 1, iP 1])],
   [],
   .tuple ⟨[.agg ⟨[iP 6, iP 0, .slice (some ⟨6, 0, none⟩) 2 18446744073709551616, .slice (some ⟨7, 0, none⟩) 1 1, .bool false, .slice none 0 0, .bool false, .slice none 0 0]⟩, iP 0]⟩⟩
theorem pa42_ok : pa42.okS EE.G = true := by kernel_rfl
theorem pa42_run : evT EE [] 1000000000 (.call pa42.f pa42.args) pa42.heap (keptK pa42) = some (.bool true) := by kernel_rfl
theorem pa42_h : pa42.holds EE := ent_run envOk (fun _ h => by cases h) _ _ pa42_ok pa42_run
-- decani/office.open, 5691 steps
noncomputable def pa51 : Ent :=
  ⟨36, [.agg ⟨[iP 3, iP 0, .slice (some ⟨6, 0, none⟩) 3 18446744073709551616, .slice (some ⟨7, 0, none⟩) 1 1, .bool false, .slice none 0 0, .bool false, .slice none 0 0]⟩, .bool true], 8,
   gB ++ [(6, .cells true 4 [iP 1, iP 1, iP 1, iP 1, iP 1, iP 1, iP 1, iP 1, iP 1]),
    (7, .cells true 0 [iP 1, iP 1, iP 1])],
   [],
   .tuple ⟨[.agg ⟨[iP 3, iP 0, .slice (some ⟨6, 0, none⟩) 3 18446744073709551616, .slice (some ⟨7, 0, none⟩) 1 1, .bool false, .slice none 0 0, .bool false, .slice none 0 0]⟩, iP 0]⟩⟩
theorem pa51_ok : pa51.okS EE.G = true := by kernel_rfl
theorem pa51_run : evT EE [] 1000000000 (.call pa51.f pa51.args) pa51.heap (keptK pa51) = some (.bool true) := by kernel_rfl
theorem pa51_h : pa51.holds EE := ent_run envOk (fun _ h => by cases h) _ _ pa51_ok pa51_run
-- decani/office.open, 5621 steps
noncomputable def pa56 : Ent :=
  ⟨36, [.agg ⟨[iP 2, iP 0, .slice (some ⟨6, 0, none⟩) 4 18446744073709551616, .slice (some ⟨7, 0, none⟩) 1 1, .bool false, .slice none 0 0, .bool false, .slice none 0 0]⟩, .bool true], 8,
   gB ++ [(6, .cells true 4 [iP 1, iP 1, iP 1, iP 1, iP 1, iP 1, iP 1, iP 1, iP 1, iP 1, iP 1, iP 1]),
    (7, .cells true 0 [iP 1, iP 1, iP 1])],
   [],
   .tuple ⟨[.agg ⟨[iP 2, iP 0, .slice (some ⟨6, 0, none⟩) 4 18446744073709551616, .slice (some ⟨7, 0, none⟩) 1 1, .bool false, .slice none 0 0, .bool false, .slice none 0 0]⟩, iP 0]⟩⟩
theorem pa56_ok : pa56.okS EE.G = true := by kernel_rfl
theorem pa56_run : evT EE [] 1000000000 (.call pa56.f pa56.args) pa56.heap (keptK pa56) = some (.bool true) := by kernel_rfl
theorem pa56_h : pa56.holds EE := ent_run envOk (fun _ h => by cases h) _ _ pa56_ok pa56_run
-- decani/cold.Clean, 5316 steps
noncomputable def pa60 : Ent :=
  ⟨15, [.agg ⟨[iP 3, iP 2, iP 1, iP 0, iP 1, iP 1, iP 1, iP 1, .slice none 0 0, iP 0, .slice none 0 0]⟩], 6,
   gB,
   [.cells true 2 [iP 2]],
   .tuple ⟨[.slice (some ⟨6, 0, none⟩) 1 18446744073709551616, iP 0]⟩⟩
theorem pa60_ok : pa60.okS EE.G = true := by kernel_rfl
theorem pa60_run : evT EE [] 1000000000 (.call pa60.f pa60.args) pa60.heap (keptK pa60) = some (.bool true) := by kernel_rfl
theorem pa60_h : pa60.holds EE := ent_run envOk (fun _ h => by cases h) _ _ pa60_ok pa60_run
-- decani/office.open, 4884 steps
noncomputable def pa71 : Ent :=
  ⟨36, [.agg ⟨[iP 6, iP 0, .slice (some ⟨6, 0, none⟩) 1 18446744073709551616, .slice (some ⟨7, 0, none⟩) 1 1, .bool false, .slice none 0 0, .bool false, .slice none 0 0]⟩, .bool true], 8,
   gB ++ [(6, .cells true 4 [iP 5, iP 5, iP 1]),
    (7, .cells true 0 [iP 1, iP 1, iP 1])],
   [],
   .tuple ⟨[.agg ⟨[iP 6, iP 0, .slice (some ⟨6, 0, none⟩) 1 18446744073709551616, .slice (some ⟨7, 0, none⟩) 1 1, .bool false, .slice none 0 0, .bool false, .slice none 0 0]⟩, iP 0]⟩⟩
theorem pa71_ok : pa71.okS EE.G = true := by kernel_rfl
theorem pa71_run : evT EE [] 1000000000 (.call pa71.f pa71.args) pa71.heap (keptK pa71) = some (.bool true) := by kernel_rfl
theorem pa71_h : pa71.holds EE := ent_run envOk (fun _ h => by cases h) _ _ pa71_ok pa71_run
-- decani/cold.Ill, 4263 steps
noncomputable def pa77 : Ent :=
  ⟨12, [.agg ⟨[iP 4, iP 2, iP 1, iP 0, iP 1, iP 1, iP 1, iP 1, .slice none 0 0, iP 0, .slice none 0 0]⟩, iP 3, iP 1], 6,
   gB,
   [],
   .tuple ⟨[iP 0, iP 0]⟩⟩
theorem pa77_ok : pa77.okS EE.G = true := by kernel_rfl
theorem pa77_run : evT EE [] 1000000000 (.call pa77.f pa77.args) pa77.heap (keptK pa77) = some (.bool true) := by kernel_rfl
theorem pa77_h : pa77.holds EE := ent_run envOk (fun _ h => by cases h) _ _ pa77_ok pa77_run
-- decani/office.open, 4262 steps
noncomputable def pa81 : Ent :=
  ⟨36, [.agg ⟨[iP 5, iP 0, .slice (some ⟨6, 0, none⟩) 1 18446744073709551616, .slice (some ⟨7, 0, none⟩) 1 1, .bool false, .slice none 0 0, .bool false, .slice none 0 0]⟩, .bool true], 8,
   gB ++ [(6, .cells true 4 [iP 3, iP 3, iP 1]),
    (7, .cells true 0 [iP 1, iP 1, iP 1])],
   [],
   .tuple ⟨[.agg ⟨[iP 5, iP 0, .slice (some ⟨6, 0, none⟩) 1 18446744073709551616, .slice (some ⟨7, 0, none⟩) 1 1, .bool false, .slice none 0 0, .bool false, .slice none 0 0]⟩, iP 0]⟩⟩
theorem pa81_ok : pa81.okS EE.G = true := by kernel_rfl
theorem pa81_run : evT EE [] 1000000000 (.call pa81.f pa81.args) pa81.heap (keptK pa81) = some (.bool true) := by kernel_rfl
theorem pa81_h : pa81.holds EE := ent_run envOk (fun _ h => by cases h) _ _ pa81_ok pa81_run
-- decani/office.open, 4187 steps
noncomputable def pa87 : Ent :=
  ⟨36, [.agg ⟨[iP 3, iP 0, .slice (some ⟨6, 0, none⟩) 2 18446744073709551616, .slice (some ⟨7, 0, none⟩) 1 1, .bool false, .slice none 0 0, .bool false, .slice none 0 0]⟩, .bool true], 8,
   gB ++ [(6, .cells true 4 [iP 2, iP 2, iP 1, iP 2, iP 2, iP 1]),
    (7, .cells true 0 [iP 1, iP 1, iP 1])],
   [],
   .tuple ⟨[.agg ⟨[iP 3, iP 0, .slice (some ⟨6, 0, none⟩) 2 18446744073709551616, .slice (some ⟨7, 0, none⟩) 1 1, .bool false, .slice none 0 0, .bool false, .slice none 0 0]⟩, iP 0]⟩⟩
theorem pa87_ok : pa87.okS EE.G = true := by kernel_rfl
theorem pa87_run : evT EE [] 1000000000 (.call pa87.f pa87.args) pa87.heap (keptK pa87) = some (.bool true) := by kernel_rfl
theorem pa87_h : pa87.holds EE := ent_run envOk (fun _ h => by cases h) _ _ pa87_ok pa87_run
-- decani/cold.Caught, 4077 steps
noncomputable def pa93 : Ent :=
  ⟨10, [.agg ⟨[iP 4, iP 5, iP 1, iP 0, iP 1, iP 1, iP 1, iP 1, .slice none 0 0, iP 0, .slice none 0 0]⟩, iP 1], 6,
   gB,
   [],
   .tuple ⟨[.agg ⟨[iP 1, iP 1]⟩, iP 0]⟩⟩
theorem pa93_ok : pa93.okS EE.G = true := by kernel_rfl
theorem pa93_run : evT EE [] 1000000000 (.call pa93.f pa93.args) pa93.heap (keptK pa93) = some (.bool true) := by kernel_rfl
theorem pa93_h : pa93.holds EE := ent_run envOk (fun _ h => by cases h) _ _ pa93_ok pa93_run
-- decani/cold.Caught, 4077 steps
noncomputable def pa99 : Ent :=
  ⟨10, [.agg ⟨[iP 4, iP 6, iP 1, iP 0, iP 1, iP 1, iP 1, iP 1, .slice none 0 0, iP 0, .slice none 0 0]⟩, iP 3], 6,
   gB,
   [],
   .tuple ⟨[.agg ⟨[iP 3, iP 3]⟩, iP 0]⟩⟩
theorem pa99_ok : pa99.okS EE.G = true := by kernel_rfl
theorem pa99_run : evT EE [] 1000000000 (.call pa99.f pa99.args) pa99.heap (keptK pa99) = some (.bool true) := by kernel_rfl
theorem pa99_h : pa99.holds EE := ent_run envOk (fun _ h => by cases h) _ _ pa99_ok pa99_run
-- decani/cold.Ill, 4075 steps
noncomputable def pa105 : Ent :=
  ⟨12, [.agg ⟨[iP 4, iP 5, iP 1, iP 0, iP 1, iP 1, iP 1, iP 1, .slice none 0 0, iP 0, .slice none 0 0]⟩, iP 1, iP 4], 6,
   gB,
   [],
   .tuple ⟨[iP 2, iP 0]⟩⟩
theorem pa105_ok : pa105.okS EE.G = true := by kernel_rfl
theorem pa105_run : evT EE [] 1000000000 (.call pa105.f pa105.args) pa105.heap (keptK pa105) = some (.bool true) := by kernel_rfl
theorem pa105_h : pa105.holds EE := ent_run envOk (fun _ h => by cases h) _ _ pa105_ok pa105_run
-- decani/cold.Ill, 4075 steps
noncomputable def pa111 : Ent :=
  ⟨12, [.agg ⟨[iP 4, iP 6, iP 1, iP 0, iP 1, iP 1, iP 1, iP 1, .slice none 0 0, iP 0, .slice none 0 0]⟩, iP 3, iP 5], 6,
   gB,
   [],
   .tuple ⟨[iP 2, iP 0]⟩⟩
theorem pa111_ok : pa111.okS EE.G = true := by kernel_rfl
theorem pa111_run : evT EE [] 1000000000 (.call pa111.f pa111.args) pa111.heap (keptK pa111) = some (.bool true) := by kernel_rfl
theorem pa111_h : pa111.holds EE := ent_run envOk (fun _ h => by cases h) _ _ pa111_ok pa111_run
-- decani/office.open, 3640 steps
noncomputable def pa119 : Ent :=
  ⟨36, [.agg ⟨[iP 4, iP 0, .slice (some ⟨6, 0, none⟩) 1 18446744073709551616, .slice (some ⟨7, 0, none⟩) 1 1, .bool false, .slice none 0 0, .bool false, .slice none 0 0]⟩, .bool true], 8,
   gB ++ [(6, .cells true 4 [iP 1, iP 1, iP 1]),
    (7, .cells true 0 [iP 1, iP 1, iP 1])],
   [],
   .tuple ⟨[.agg ⟨[iP 4, iP 0, .slice (some ⟨6, 0, none⟩) 1 18446744073709551616, .slice (some ⟨7, 0, none⟩) 1 1, .bool false, .slice none 0 0, .bool false, .slice none 0 0]⟩, iP 0]⟩⟩
theorem pa119_ok : pa119.okS EE.G = true := by kernel_rfl
theorem pa119_run : evT EE [] 1000000000 (.call pa119.f pa119.args) pa119.heap (keptK pa119) = some (.bool true) := by kernel_rfl
theorem pa119_h : pa119.holds EE := ent_run envOk (fun _ h => by cases h) _ _ pa119_ok pa119_run
-- decani/office.open, 3640 steps
noncomputable def pa121 : Ent :=
  ⟨36, [.agg ⟨[iP 4, iP 0, .slice (some ⟨6, 0, none⟩) 1 18446744073709551616, .slice (some ⟨7, 0, none⟩) 1 1, .bool false, .slice none 0 0, .bool false, .slice none 0 0]⟩, .bool true], 8,
   gB ++ [(6, .cells true 4 [iP 3, iP 3, iP 1]),
    (7, .cells true 0 [iP 1, iP 1, iP 1])],
   [],
   .tuple ⟨[.agg ⟨[iP 4, iP 0, .slice (some ⟨6, 0, none⟩) 1 18446744073709551616, .slice (some ⟨7, 0, none⟩) 1 1, .bool false, .slice none 0 0, .bool false, .slice none 0 0]⟩, iP 0]⟩⟩
theorem pa121_ok : pa121.okS EE.G = true := by kernel_rfl
theorem pa121_run : evT EE [] 1000000000 (.call pa121.f pa121.args) pa121.heap (keptK pa121) = some (.bool true) := by kernel_rfl
theorem pa121_h : pa121.holds EE := ent_run envOk (fun _ h => by cases h) _ _ pa121_ok pa121_run
-- decani/cold.Ill, 3617 steps
noncomputable def pa127 : Ent :=
  ⟨12, [.agg ⟨[iP 4, iP 3, iP 1, iP 0, iP 1, iP 1, iP 1, iP 1, .slice none 0 0, iP 0, .slice none 0 0]⟩, iP 2, iP 2], 6,
   gB,
   [],
   .tuple ⟨[iP 2, iP 0]⟩⟩
theorem pa127_ok : pa127.okS EE.G = true := by kernel_rfl
theorem pa127_run : evT EE [] 1000000000 (.call pa127.f pa127.args) pa127.heap (keptK pa127) = some (.bool true) := by kernel_rfl
theorem pa127_h : pa127.holds EE := ent_run envOk (fun _ h => by cases h) _ _ pa127_ok pa127_run
-- decani/cold.Caught, 3518 steps
noncomputable def pa135 : Ent :=
  ⟨10, [.agg ⟨[iP 3, iP 5, iP 1, iP 0, iP 1, iP 1, iP 1, iP 1, .slice none 0 0, iP 0, .slice none 0 0]⟩, iP 0], 6,
   gB,
   [],
   .tuple ⟨[.agg ⟨[iP 0, iP 0]⟩, iP 0]⟩⟩
theorem pa135_ok : pa135.okS EE.G = true := by kernel_rfl
theorem pa135_run : evT EE [] 1000000000 (.call pa135.f pa135.args) pa135.heap (keptK pa135) = some (.bool true) := by kernel_rfl
theorem pa135_h : pa135.holds EE := ent_run envOk (fun _ h => by cases h) _ _ pa135_ok pa135_run
-- decani/cold.Ill, 3516 steps
noncomputable def pa141 : Ent :=
  ⟨12, [.agg ⟨[iP 3, iP 3, iP 1, iP 0, iP 1, iP 1, iP 1, iP 1, .slice none 0 0, iP 0, .slice none 0 0]⟩, iP 0, iP 2], 6,
   gB,
   [],
   .tuple ⟨[iP 2, iP 0]⟩⟩
theorem pa141_ok : pa141.okS EE.G = true := by kernel_rfl
theorem pa141_run : evT EE [] 1000000000 (.call pa141.f pa141.args) pa141.heap (keptK pa141) = some (.bool true) := by kernel_rfl
theorem pa141_h : pa141.holds EE := ent_run envOk (fun _ h => by cases h) _ _ pa141_ok pa141_run
-- decani/cold.Ill, 3516 steps
noncomputable def pa147 : Ent :=
  ⟨12, [.agg ⟨[iP 3, iP 5, iP 1, iP 0, iP 1, iP 1, iP 1, iP 1, .slice none 0 0, iP 0, .slice none 0 0]⟩, iP 0, iP 4], 6,
   gB,
   [],
   .tuple ⟨[iP 2, iP 0]⟩⟩
theorem pa147_ok : pa147.okS EE.G = true := by kernel_rfl
theorem pa147_run : evT EE [] 1000000000 (.call pa147.f pa147.args) pa147.heap (keptK pa147) = some (.bool true) := by kernel_rfl
theorem pa147_h : pa147.holds EE := ent_run envOk (fun _ h => by cases h) _ _ pa147_ok pa147_run
-- decani/office.open, 3515 steps
noncomputable def pa153 : Ent :=
  ⟨36, [.agg ⟨[iP 2, iP 0, .slice (some ⟨6, 0, none⟩) 2 18446744073709551616, .slice (some ⟨7, 0, none⟩) 1 1, .bool false, .slice none 0 0, .bool false, .slice none 0 0]⟩, .bool true], 8,
   gB ++ [(6, .cells true 4 [iP 0, iP 0, iP 1, iP 0, iP 0, iP 1]),
    (7, .cells true 0 [iP 1, iP 1, iP 1])],
   [],
   .tuple ⟨[.agg ⟨[iP 2, iP 0, .slice (some ⟨6, 0, none⟩) 2 18446744073709551616, .slice (some ⟨7, 0, none⟩) 1 1, .bool false, .slice none 0 0, .bool false, .slice none 0 0]⟩, iP 0]⟩⟩
theorem pa153_ok : pa153.okS EE.G = true := by kernel_rfl
theorem pa153_run : evT EE [] 1000000000 (.call pa153.f pa153.args) pa153.heap (keptK pa153) = some (.bool true) := by kernel_rfl
theorem pa153_h : pa153.holds EE := ent_run envOk (fun _ h => by cases h) _ _ pa153_ok pa153_run
-- decani/cold.Ill, 3408 steps
noncomputable def pa160 : Ent :=
  ⟨12, [.agg ⟨[iP 2, iP 1, iP 1, iP 0, iP 1, iP 1, iP 1, iP 1, .slice none 0 0, iP 0, .slice none 0 0]⟩, iP 1, iP 0], 6,
   gB,
   [],
   .tuple ⟨[iP 0, iP 0]⟩⟩
theorem pa160_ok : pa160.okS EE.G = true := by kernel_rfl
theorem pa160_run : evT EE [] 1000000000 (.call pa160.f pa160.args) pa160.heap (keptK pa160) = some (.bool true) := by kernel_rfl
theorem pa160_h : pa160.holds EE := ent_run envOk (fun _ h => by cases h) _ _ pa160_ok pa160_run
-- decani/cold.Caught, 3093 steps
noncomputable def pa163 : Ent :=
  ⟨10, [.agg ⟨[iP 4, iP 2, iP 1, iP 0, iP 1, iP 1, iP 1, iP 1, .slice none 0 0, iP 0, .slice none 0 0]⟩, iP 0], 6,
   gB,
   [],
   .tuple ⟨[.agg ⟨[iP 0, iP 0]⟩, iP 0]⟩⟩
theorem pa163_ok : pa163.okS EE.G = true := by kernel_rfl
theorem pa163_run : evT EE [] 1000000000 (.call pa163.f pa163.args) pa163.heap (keptK pa163) = some (.bool true) := by kernel_rfl
theorem pa163_h : pa163.holds EE := ent_run envOk (fun _ h => by cases h) _ _ pa163_ok pa163_run
-- decani/cold.Caught, 3060 steps
noncomputable def pa168 : Ent :=
  ⟨10, [.agg ⟨[iP 3, iP 2, iP 1, iP 0, iP 1, iP 1, iP 1, iP 1, .slice none 0 0, iP 0, .slice none 0 0]⟩, iP 1], 6,
   gB,
   [],
   .tuple ⟨[.agg ⟨[iP 1, iP 1]⟩, iP 0]⟩⟩
theorem pa168_ok : pa168.okS EE.G = true := by kernel_rfl
theorem pa168_run : evT EE [] 1000000000 (.call pa168.f pa168.args) pa168.heap (keptK pa168) = some (.bool true) := by kernel_rfl
theorem pa168_h : pa168.holds EE := ent_run envOk (fun _ h => by cases h) _ _ pa168_ok pa168_run
-- decani/cold.Caught, 2977 steps
noncomputable def pa176 : Ent :=
  ⟨10, [.agg ⟨[iP 3, iP 2, iP 1, iP 0, iP 1, iP 1, iP 1, iP 1, .slice none 0 0, iP 0, .slice none 0 0]⟩, iP 2], 6,
   gB,
   [],
   .tuple ⟨[.agg ⟨[iP 0, iP 0]⟩, iP 4]⟩⟩
theorem pa176_ok : pa176.okS EE.G = true := by kernel_rfl
theorem pa176_run : evT EE [] 1000000000 (.call pa176.f pa176.args) pa176.heap (keptK pa176) = some (.bool true) := by kernel_rfl
theorem pa176_h : pa176.holds EE := ent_run envOk (fun _ h => by cases h) _ _ pa176_ok pa176_run
-- decani/cold.Caught, 2959 steps
noncomputable def pa182 : Ent :=
  ⟨10, [.agg ⟨[iP 2, iP 4, iP 1, iP 0, iP 1, iP 1, iP 1, iP 1, .slice none 0 0, iP 0, .slice none 0 0]⟩, iP 1], 6,
   gB,
   [],
   .tuple ⟨[.agg ⟨[iP 1, iP 1]⟩, iP 0]⟩⟩
theorem pa182_ok : pa182.okS EE.G = true := by kernel_rfl
theorem pa182_run : evT EE [] 1000000000 (.call pa182.f pa182.args) pa182.heap (keptK pa182) = some (.bool true) := by kernel_rfl
theorem pa182_h : pa182.holds EE := ent_run envOk (fun _ h => by cases h) _ _ pa182_ok pa182_run
-- decani/cold.Ill, 2957 steps
noncomputable def pa188 : Ent :=
  ⟨12, [.agg ⟨[iP 2, iP 2, iP 1, iP 0, iP 1, iP 1, iP 1, iP 1, .slice none 0 0, iP 0, .slice none 0 0]⟩, iP 1, iP 1], 6,
   gB,
   [],
   .tuple ⟨[iP 2, iP 0]⟩⟩
theorem pa188_ok : pa188.okS EE.G = true := by kernel_rfl
theorem pa188_run : evT EE [] 1000000000 (.call pa188.f pa188.args) pa188.heap (keptK pa188) = some (.bool true) := by kernel_rfl
theorem pa188_h : pa188.holds EE := ent_run envOk (fun _ h => by cases h) _ _ pa188_ok pa188_run
-- decani/cold.Ill, 2957 steps
noncomputable def pa194 : Ent :=
  ⟨12, [.agg ⟨[iP 2, iP 5, iP 1, iP 0, iP 1, iP 1, iP 1, iP 1, .slice none 0 0, iP 0, .slice none 0 0]⟩, iP 1, iP 4], 6,
   gB,
   [],
   .tuple ⟨[iP 2, iP 0]⟩⟩
theorem pa194_ok : pa194.okS EE.G = true := by kernel_rfl
theorem pa194_run : evT EE [] 1000000000 (.call pa194.f pa194.args) pa194.heap (keptK pa194) = some (.bool true) := by kernel_rfl
theorem pa194_h : pa194.holds EE := ent_run envOk (fun _ h => by cases h) _ _ pa194_ok pa194_run
-- decani/cold.Ill, 2532 steps
noncomputable def pa201 : Ent :=
  ⟨12, [.agg ⟨[iP 3, iP 1, iP 1, iP 0, iP 1, iP 1, iP 1, iP 1, .slice none 0 0, iP 0, .slice none 0 0]⟩, iP 0, iP 0], 6,
   gB,
   [],
   .tuple ⟨[iP 2, iP 0]⟩⟩
theorem pa201_ok : pa201.okS EE.G = true := by kernel_rfl
theorem pa201_run : evT EE [] 1000000000 (.call pa201.f pa201.args) pa201.heap (keptK pa201) = some (.bool true) := by kernel_rfl
theorem pa201_h : pa201.holds EE := ent_run envOk (fun _ h => by cases h) _ _ pa201_ok pa201_run
-- decani/cold.Caught, 2451 steps
noncomputable def pa208 : Ent :=
  ⟨10, [.agg ⟨[iP 3, iP 1, iP 1, iP 0, iP 1, iP 1, iP 1, iP 1, .slice none 0 0, iP 0, .slice none 0 0]⟩, iP 2], 6,
   gB,
   [],
   .tuple ⟨[.agg ⟨[iP 0, iP 0]⟩, iP 4]⟩⟩
theorem pa208_ok : pa208.okS EE.G = true := by kernel_rfl
theorem pa208_run : evT EE [] 1000000000 (.call pa208.f pa208.args) pa208.heap (keptK pa208) = some (.bool true) := by kernel_rfl
theorem pa208_h : pa208.holds EE := ent_run envOk (fun _ h => by cases h) _ _ pa208_ok pa208_run
-- decani/cold.Caught, 2400 steps
noncomputable def pa213 : Ent :=
  ⟨10, [.agg ⟨[iP 1, iP 4, iP 1, iP 0, iP 1, iP 1, iP 1, iP 1, .slice none 0 0, iP 0, .slice none 0 0]⟩, iP 0], 6,
   gB,
   [],
   .tuple ⟨[.agg ⟨[iP 0, iP 0]⟩, iP 0]⟩⟩
theorem pa213_ok : pa213.okS EE.G = true := by kernel_rfl
theorem pa213_run : evT EE [] 1000000000 (.call pa213.f pa213.args) pa213.heap (keptK pa213) = some (.bool true) := by kernel_rfl
theorem pa213_h : pa213.holds EE := ent_run envOk (fun _ h => by cases h) _ _ pa213_ok pa213_run
-- decani/cold.Ill, 2398 steps
noncomputable def pa219 : Ent :=
  ⟨12, [.agg ⟨[iP 1, iP 4, iP 1, iP 0, iP 1, iP 1, iP 1, iP 1, .slice none 0 0, iP 0, .slice none 0 0]⟩, iP 0, iP 3], 6,
   gB,
   [],
   .tuple ⟨[iP 2, iP 0]⟩⟩
theorem pa219_ok : pa219.okS EE.G = true := by kernel_rfl
theorem pa219_run : evT EE [] 1000000000 (.call pa219.f pa219.args) pa219.heap (keptK pa219) = some (.bool true) := by kernel_rfl
theorem pa219_h : pa219.holds EE := ent_run envOk (fun _ h => by cases h) _ _ pa219_ok pa219_run
-- decani/cold.Clean, 2263 steps
noncomputable def pa225 : Ent :=
  ⟨15, [.agg ⟨[iP 1, iP 2, iP 1, iP 0, iP 1, iP 1, iP 1, iP 1, .slice none 0 0, iP 0, .slice none 0 0]⟩], 6,
   gB,
   [],
   .tuple ⟨[.slice none 0 0, iP 0]⟩⟩
theorem pa225_ok : pa225.okS EE.G = true := by kernel_rfl
theorem pa225_run : evT EE [] 1000000000 (.call pa225.f pa225.args) pa225.heap (keptK pa225) = some (.bool true) := by kernel_rfl
theorem pa225_h : pa225.holds EE := ent_run envOk (fun _ h => by cases h) _ _ pa225_ok pa225_run
-- decani/cold.Clean, 2263 steps
noncomputable def pa229 : Ent :=
  ⟨15, [.agg ⟨[iP 1, iP 6, iP 1, iP 0, iP 1, iP 1, iP 1, iP 1, .slice none 0 0, iP 0, .slice none 0 0]⟩], 6,
   gB,
   [],
   .tuple ⟨[.slice none 0 0, iP 0]⟩⟩
theorem pa229_ok : pa229.okS EE.G = true := by kernel_rfl
theorem pa229_run : evT EE [] 1000000000 (.call pa229.f pa229.args) pa229.heap (keptK pa229) = some (.bool true) := by kernel_rfl
theorem pa229_h : pa229.holds EE := ent_run envOk (fun _ h => by cases h) _ _ pa229_ok pa229_run
end Go.Proofs.YtmjpnohpmfmdlaaGreatDoor
