/- Known calls, part 1: what single calls hand back, at small heaps, by the kernel's own run of the evaluator. No conditions. -/
import Derived.Test.YtmjpnohpmfmdlaaGreatDoorEnv
set_option linter.all false
namespace Go.Proofs.YtmjpnohpmfmdlaaGreatDoor
open Go.Ai
set_option maxRecDepth 1000000
-- decani/office.open, 10242 steps
noncomputable def pa1 : Ent :=
  ⟨36, [.agg ⟨[iP 6, iP 0, .slice (some ⟨6, 0, none⟩) 4 18446744073709551616, .slice (some ⟨7, 0, none⟩) 1 1, .bool false, .slice none 0 0, .bool false, .slice none 0 0]⟩, .bool true], 8,
   gB ++ [(6, .cells true 4 [iP 1, iP 1, iP 1, iP 1, iP 1, iP 1, iP 1, iP 1, iP 1, iP 1, iP 1, iP 1]),
    (7, .cells true 0 [iP 1, iP 1, iP 1])],
   [],
   .tuple ⟨[.agg ⟨[iP 6, iP 0, .slice (some ⟨6, 0, none⟩) 4 18446744073709551616, .slice (some ⟨7, 0, none⟩) 1 1, .bool false, .slice none 0 0, .bool false, .slice none 0 0]⟩, iP 0]⟩⟩
theorem pa1_ok : pa1.okS EE.G = true := by kernel_rfl
theorem pa1_run : evT EE [] 1000000000 (.call pa1.f pa1.args) pa1.heap (keptK pa1) = some (.bool true) := by kernel_rfl
theorem pa1_h : pa1.holds EE := ent_run envOk (fun _ h => by cases h) _ _ pa1_ok pa1_run
-- decani/cold.Clean, 8821 steps
noncomputable def pa10 : Ent :=
  ⟨15, [.agg ⟨[iP 4, iP 4, iP 1, iP 0, iP 1, iP 1, iP 1, iP 1, .slice none 0 0, iP 0, .slice none 0 0]⟩], 6,
   gB,
   [],
   .tuple ⟨[.slice none 0 0, iP 0]⟩⟩
theorem pa10_ok : pa10.okS EE.G = true := by kernel_rfl
theorem pa10_run : evT EE [] 1000000000 (.call pa10.f pa10.args) pa10.heap (keptK pa10) = some (.bool true) := by kernel_rfl
theorem pa10_h : pa10.holds EE := ent_run envOk (fun _ h => by cases h) _ _ pa10_ok pa10_run
-- decani/office.open, 8434 steps
noncomputable def pa13 : Ent :=
  ⟨36, [.agg ⟨[iP 4, iP 0, .slice (some ⟨6, 0, none⟩) 4 18446744073709551616, .slice (some ⟨7, 0, none⟩) 1 1, .bool false, .slice none 0 0, .bool false, .slice none 0 0]⟩, .bool true], 8,
   gB ++ [(6, .cells true 4 [iP 0, iP 0, iP 1, iP 0, iP 0, iP 1, iP 0, iP 0, iP 1, iP 0, iP 0, iP 1]),
    (7, .cells true 0 [iP 1, iP 1, iP 1])],
   [],
   .tuple ⟨[.agg ⟨[iP 4, iP 0, .slice (some ⟨6, 0, none⟩) 4 18446744073709551616, .slice (some ⟨7, 0, none⟩) 1 1, .bool false, .slice none 0 0, .bool false, .slice none 0 0]⟩, iP 0]⟩⟩
theorem pa13_ok : pa13.okS EE.G = true := by kernel_rfl
theorem pa13_run : evT EE [] 1000000000 (.call pa13.f pa13.args) pa13.heap (keptK pa13) = some (.bool true) := by kernel_rfl
theorem pa13_h : pa13.holds EE := ent_run envOk (fun _ h => by cases h) _ _ pa13_ok pa13_run
-- decani/office.open, 8055 steps
noncomputable def pa21 : Ent :=
  ⟨36, [.agg ⟨[iP 4, iP 0, .slice (some ⟨6, 0, none⟩) 4 18446744073709551616, .slice (some ⟨7, 0, none⟩) 1 1, .bool false, .slice none 0 0, .bool false, .slice none 0 0]⟩, .bool true], 8,
   gB ++ [(6, .cells true 4 [iP 2, iP 2, iP 1, iP 2, iP 2, iP 1, iP 2, iP 2, iP 1, iP 2, iP 2, iP 1]),
    (7, .cells true 0 [iP 1, iP 1, iP 1])],
   [],
   .tuple ⟨[.agg ⟨[iP 4, iP 0, .slice (some ⟨6, 0, none⟩) 4 18446744073709551616, .slice (some ⟨7, 0, none⟩) 1 1, .bool false, .slice none 0 0, .bool false, .slice none 0 0]⟩, iP 0]⟩⟩
theorem pa21_ok : pa21.okS EE.G = true := by kernel_rfl
theorem pa21_run : evT EE [] 1000000000 (.call pa21.f pa21.args) pa21.heap (keptK pa21) = some (.bool true) := by kernel_rfl
theorem pa21_h : pa21.holds EE := ent_run envOk (fun _ h => by cases h) _ _ pa21_ok pa21_run
-- decani/office.open, 7355 steps
noncomputable def pa27 : Ent :=
  ⟨36, [.agg ⟨[iP 5, iP 0, .slice (some ⟨6, 0, none⟩) 3 18446744073709551616, .slice (some ⟨7, 0, none⟩) 1 1, .bool false, .slice none 0 0, .bool false, .slice none 0 0]⟩, .bool true], 8,
   gB ++ [(6, .cells true 4 [iP 0, iP 0, iP 1, iP 0, iP 0, iP 1, iP 0, iP 0, iP 1]),
    (7, .cells true 0 [iP 1, iP 1, iP 1])],
   [],
   .tuple ⟨[.agg ⟨[iP 5, iP 0, .slice (some ⟨6, 0, none⟩) 3 18446744073709551616, .slice (some ⟨7, 0, none⟩) 1 1, .bool false, .slice none 0 0, .bool false, .slice none 0 0]⟩, iP 0]⟩⟩
theorem pa27_ok : pa27.okS EE.G = true := by kernel_rfl
theorem pa27_run : evT EE [] 1000000000 (.call pa27.f pa27.args) pa27.heap (keptK pa27) = some (.bool true) := by kernel_rfl
theorem pa27_h : pa27.holds EE := ent_run envOk (fun _ h => by cases h) _ _ pa27_ok pa27_run
-- decani/office.open, 6545 steps
noncomputable def pa33 : Ent :=
  ⟨36, [.agg ⟨[iP 4, iP 0, .slice (some ⟨6, 0, none⟩) 3 18446744073709551616, .slice (some ⟨7, 0, none⟩) 1 1, .bool false, .slice none 0 0, .bool false, .slice none 0 0]⟩, .bool true], 8,
   gB ++ [(6, .cells true 4 [iP 0, iP 0, iP 1, iP 0, iP 0, iP 1, iP 0, iP 0, iP 1]),
    (7, .cells true 0 [iP 1, iP 1, iP 1])],
   [],
   .tuple ⟨[.agg ⟨[iP 4, iP 0, .slice (some ⟨6, 0, none⟩) 3 18446744073709551616, .slice (some ⟨7, 0, none⟩) 1 1, .bool false, .slice none 0 0, .bool false, .slice none 0 0]⟩, iP 0]⟩⟩
theorem pa33_ok : pa33.okS EE.G = true := by kernel_rfl
theorem pa33_run : evT EE [] 1000000000 (.call pa33.f pa33.args) pa33.heap (keptK pa33) = some (.bool true) := by kernel_rfl
theorem pa33_h : pa33.holds EE := ent_run envOk (fun _ h => by cases h) _ _ pa33_ok pa33_run
-- decani/office.open, 6501 steps
noncomputable def pa36 : Ent :=
  ⟨36, [.agg ⟨[iP 4, iP 0, .slice (some ⟨6, 0, none⟩) 3 18446744073709551616, .slice (some ⟨7, 0, none⟩) 1 1, .bool false, .slice none 0 0, .bool false, .slice none 0 0]⟩, .bool true], 8,
   gB ++ [(6, .cells true 4 [iP 2, iP 2, iP 1, iP 2, iP 2, iP 1, iP 2, iP 2, iP 1]),
    (7, .cells true 0 [iP 1, iP 1, iP 1])],
   [],
   .tuple ⟨[.agg ⟨[iP 4, iP 0, .slice (some ⟨6, 0, none⟩) 3 18446744073709551616, .slice (some ⟨7, 0, none⟩) 1 1, .bool false, .slice none 0 0, .bool false, .slice none 0 0]⟩, iP 0]⟩⟩
theorem pa36_ok : pa36.okS EE.G = true := by kernel_rfl
theorem pa36_run : evT EE [] 1000000000 (.call pa36.f pa36.args) pa36.heap (keptK pa36) = some (.bool true) := by kernel_rfl
theorem pa36_h : pa36.holds EE := ent_run envOk (fun _ h => by cases h) _ _ pa36_ok pa36_run
-- decani/cold.Clean, 6109 steps
noncomputable def pa45 : Ent :=
  ⟨15, [.agg ⟨[iP 3, iP 3, iP 1, iP 0, iP 1, iP 1, iP 1, iP 1, .slice none 0 0, iP 0, .slice none 0 0]⟩], 6,
   gB,
   [],
   .tuple ⟨[.slice none 0 0, iP 0]⟩⟩
theorem pa45_ok : pa45.okS EE.G = true := by kernel_rfl
theorem pa45_run : evT EE [] 1000000000 (.call pa45.f pa45.args) pa45.heap (keptK pa45) = some (.bool true) := by kernel_rfl
theorem pa45_h : pa45.holds EE := ent_run envOk (fun _ h => by cases h) _ _ pa45_ok pa45_run
-- decani/cold.Clean, 6109 steps
noncomputable def pa48 : Ent :=
  ⟨15, [.agg ⟨[iP 3, iP 6, iP 1, iP 0, iP 1, iP 1, iP 1, iP 1, .slice none 0 0, iP 0, .slice none 0 0]⟩], 6,
   gB,
   [],
   .tuple ⟨[.slice none 0 0, iP 0]⟩⟩
theorem pa48_ok : pa48.okS EE.G = true := by kernel_rfl
theorem pa48_run : evT EE [] 1000000000 (.call pa48.f pa48.args) pa48.heap (keptK pa48) = some (.bool true) := by kernel_rfl
theorem pa48_h : pa48.holds EE := ent_run envOk (fun _ h => by cases h) _ _ pa48_ok pa48_run
-- decani/office.open, 5356 steps
noncomputable def pa59 : Ent :=
  ⟨36, [.agg ⟨[iP 3, iP 0, .slice (some ⟨6, 0, none⟩) 3 18446744073709551616, .slice (some ⟨7, 0, none⟩) 1 1, .bool false, .slice none 0 0, .bool false, .slice none 0 0]⟩, .bool true], 8,
   gB ++ [(6, .cells true 4 [iP 2, iP 2, iP 1, iP 2, iP 2, iP 1, iP 2, iP 2, iP 1]),
    (7, .cells true 0 [iP 1, iP 1, iP 1])],
   [],
   .tuple ⟨[.agg ⟨[iP 3, iP 0, .slice (some ⟨6, 0, none⟩) 3 18446744073709551616, .slice (some ⟨7, 0, none⟩) 1 1, .bool false, .slice none 0 0, .bool false, .slice none 0 0]⟩, iP 0]⟩⟩
theorem pa59_ok : pa59.okS EE.G = true := by kernel_rfl
theorem pa59_run : evT EE [] 1000000000 (.call pa59.f pa59.args) pa59.heap (keptK pa59) = some (.bool true) := by kernel_rfl
theorem pa59_h : pa59.holds EE := ent_run envOk (fun _ h => by cases h) _ _ pa59_ok pa59_run
-- decani/office.open, 4947 steps
noncomputable def pa62 : Ent :=
  ⟨36, [.agg ⟨[iP 4, iP 0, .slice (some ⟨6, 0, none⟩) 2 18446744073709551616, .slice (some ⟨7, 0, none⟩) 1 1, .bool false, .slice none 0 0, .bool false, .slice none 0 0]⟩, .bool true], 8,
   gB ++ [(6, .cells true 4 [iP 0, iP 0, iP 1, iP 0, iP 0, iP 1]),
    (7, .cells true 0 [iP 1, iP 1, iP 1])],
   [],
   .tuple ⟨[.agg ⟨[iP 4, iP 0, .slice (some ⟨6, 0, none⟩) 2 18446744073709551616, .slice (some ⟨7, 0, none⟩) 1 1, .bool false, .slice none 0 0, .bool false, .slice none 0 0]⟩, iP 0]⟩⟩
theorem pa62_ok : pa62.okS EE.G = true := by kernel_rfl
theorem pa62_run : evT EE [] 1000000000 (.call pa62.f pa62.args) pa62.heap (keptK pa62) = some (.bool true) := by kernel_rfl
theorem pa62_h : pa62.holds EE := ent_run envOk (fun _ h => by cases h) _ _ pa62_ok pa62_run
-- decani/office.open, 4884 steps
noncomputable def pa66 : Ent :=
  ⟨36, [.agg ⟨[iP 6, iP 0, .slice (some ⟨6, 0, none⟩) 1 18446744073709551616, .slice (some ⟨7, 0, none⟩) 1 1, .bool false, .slice none 0 0, .bool false, .slice none 0 0]⟩, .bool true], 8,
   gB ++ [(6, .cells true 4 [iP 0, iP 0, iP 1]),
    (7, .cells true 0 [iP 1, iP 1, iP 1])],
   [],
   .tuple ⟨[.agg ⟨[iP 6, iP 0, .slice (some ⟨6, 0, none⟩) 1 18446744073709551616, .slice (some ⟨7, 0, none⟩) 1 1, .bool false, .slice none 0 0, .bool false, .slice none 0 0]⟩, iP 0]⟩⟩
theorem pa66_ok : pa66.okS EE.G = true := by kernel_rfl
theorem pa66_run : evT EE [] 1000000000 (.call pa66.f pa66.args) pa66.heap (keptK pa66) = some (.bool true) := by kernel_rfl
theorem pa66_h : pa66.holds EE := ent_run envOk (fun _ h => by cases h) _ _ pa66_ok pa66_run
-- decani/office.open, 4881 steps
noncomputable def pa72 : Ent :=
  ⟨36, [.agg ⟨[iP 2, iP 0, .slice (some ⟨6, 0, none⟩) 3 18446744073709551616, .slice (some ⟨7, 0, none⟩) 1 1, .bool false, .slice none 0 0, .bool false, .slice none 0 0]⟩, .bool true], 8,
   gB ++ [(6, .cells true 4 [iP 0, iP 0, iP 1, iP 0, iP 0, iP 1, iP 0, iP 0, iP 1]),
    (7, .cells true 0 [iP 1, iP 1, iP 1])],
   [],
   .tuple ⟨[.agg ⟨[iP 2, iP 0, .slice (some ⟨6, 0, none⟩) 3 18446744073709551616, .slice (some ⟨7, 0, none⟩) 1 1, .bool false, .slice none 0 0, .bool false, .slice none 0 0]⟩, iP 0]⟩⟩
theorem pa72_ok : pa72.okS EE.G = true := by kernel_rfl
theorem pa72_run : evT EE [] 1000000000 (.call pa72.f pa72.args) pa72.heap (keptK pa72) = some (.bool true) := by kernel_rfl
theorem pa72_h : pa72.holds EE := ent_run envOk (fun _ h => by cases h) _ _ pa72_ok pa72_run
-- decani/office.open, 4231 steps
noncomputable def pa83 : Ent :=
  ⟨36, [.agg ⟨[iP 3, iP 0, .slice (some ⟨6, 0, none⟩) 2 18446744073709551616, .slice (some ⟨7, 0, none⟩) 1 1, .bool false, .slice none 0 0, .bool false, .slice none 0 0]⟩, .bool true], 8,
   gB ++ [(6, .cells true 4 [iP 0, iP 0, iP 1, iP 0, iP 0, iP 1]),
    (7, .cells true 0 [iP 1, iP 1, iP 1])],
   [],
   .tuple ⟨[.agg ⟨[iP 3, iP 0, .slice (some ⟨6, 0, none⟩) 2 18446744073709551616, .slice (some ⟨7, 0, none⟩) 1 1, .bool false, .slice none 0 0, .bool false, .slice none 0 0]⟩, iP 0]⟩⟩
theorem pa83_ok : pa83.okS EE.G = true := by kernel_rfl
theorem pa83_run : evT EE [] 1000000000 (.call pa83.f pa83.args) pa83.heap (keptK pa83) = some (.bool true) := by kernel_rfl
theorem pa83_h : pa83.holds EE := ent_run envOk (fun _ h => by cases h) _ _ pa83_ok pa83_run
-- decani/cold.Caught, 4077 steps
noncomputable def pa89 : Ent :=
  ⟨10, [.agg ⟨[iP 4, iP 4, iP 1, iP 0, iP 1, iP 1, iP 1, iP 1, .slice none 0 0, iP 0, .slice none 0 0]⟩, iP 1], 6,
   gB,
   [],
   .tuple ⟨[.agg ⟨[iP 1, iP 1]⟩, iP 0]⟩⟩
theorem pa89_ok : pa89.okS EE.G = true := by kernel_rfl
theorem pa89_run : evT EE [] 1000000000 (.call pa89.f pa89.args) pa89.heap (keptK pa89) = some (.bool true) := by kernel_rfl
theorem pa89_h : pa89.holds EE := ent_run envOk (fun _ h => by cases h) _ _ pa89_ok pa89_run
-- decani/cold.Caught, 4077 steps
noncomputable def pa95 : Ent :=
  ⟨10, [.agg ⟨[iP 4, iP 5, iP 1, iP 0, iP 1, iP 1, iP 1, iP 1, .slice none 0 0, iP 0, .slice none 0 0]⟩, iP 3], 6,
   gB,
   [],
   .tuple ⟨[.agg ⟨[iP 3, iP 3]⟩, iP 0]⟩⟩
theorem pa95_ok : pa95.okS EE.G = true := by kernel_rfl
theorem pa95_run : evT EE [] 1000000000 (.call pa95.f pa95.args) pa95.heap (keptK pa95) = some (.bool true) := by kernel_rfl
theorem pa95_h : pa95.holds EE := ent_run envOk (fun _ h => by cases h) _ _ pa95_ok pa95_run
-- decani/cold.Ill, 4075 steps
noncomputable def pa101 : Ent :=
  ⟨12, [.agg ⟨[iP 4, iP 4, iP 1, iP 0, iP 1, iP 1, iP 1, iP 1, .slice none 0 0, iP 0, .slice none 0 0]⟩, iP 1, iP 3], 6,
   gB,
   [],
   .tuple ⟨[iP 2, iP 0]⟩⟩
theorem pa101_ok : pa101.okS EE.G = true := by kernel_rfl
theorem pa101_run : evT EE [] 1000000000 (.call pa101.f pa101.args) pa101.heap (keptK pa101) = some (.bool true) := by kernel_rfl
theorem pa101_h : pa101.holds EE := ent_run envOk (fun _ h => by cases h) _ _ pa101_ok pa101_run
-- decani/cold.Ill, 4075 steps
noncomputable def pa107 : Ent :=
  ⟨12, [.agg ⟨[iP 4, iP 5, iP 1, iP 0, iP 1, iP 1, iP 1, iP 1, .slice none 0 0, iP 0, .slice none 0 0]⟩, iP 3, iP 4], 6,
   gB,
   [],
   .tuple ⟨[iP 2, iP 0]⟩⟩
theorem pa107_ok : pa107.okS EE.G = true := by kernel_rfl
theorem pa107_run : evT EE [] 1000000000 (.call pa107.f pa107.args) pa107.heap (keptK pa107) = some (.bool true) := by kernel_rfl
theorem pa107_h : pa107.holds EE := ent_run envOk (fun _ h => by cases h) _ _ pa107_ok pa107_run
-- decani/cold.Clean, 3923 steps
noncomputable def pa113 : Ent :=
  ⟨15, [.agg ⟨[iP 2, iP 3, iP 1, iP 0, iP 1, iP 1, iP 1, iP 1, .slice none 0 0, iP 0, .slice none 0 0]⟩], 6,
   gB,
   [],
   .tuple ⟨[.slice none 0 0, iP 0]⟩⟩
theorem pa113_ok : pa113.okS EE.G = true := by kernel_rfl
theorem pa113_run : evT EE [] 1000000000 (.call pa113.f pa113.args) pa113.heap (keptK pa113) = some (.bool true) := by kernel_rfl
theorem pa113_h : pa113.holds EE := ent_run envOk (fun _ h => by cases h) _ _ pa113_ok pa113_run
-- decani/office.open, 3640 steps
noncomputable def pa118 : Ent :=
  ⟨36, [.agg ⟨[iP 4, iP 0, .slice (some ⟨6, 0, none⟩) 1 18446744073709551616, .slice (some ⟨7, 0, none⟩) 1 1, .bool false, .slice none 0 0, .bool false, .slice none 0 0]⟩, .bool true], 8,
   gB ++ [(6, .cells true 4 [iP 0, iP 0, iP 1]),
    (7, .cells true 0 [iP 1, iP 1, iP 1])],
   [],
   .tuple ⟨[.agg ⟨[iP 4, iP 0, .slice (some ⟨6, 0, none⟩) 1 18446744073709551616, .slice (some ⟨7, 0, none⟩) 1 1, .bool false, .slice none 0 0, .bool false, .slice none 0 0]⟩, iP 0]⟩⟩
theorem pa118_ok : pa118.okS EE.G = true := by kernel_rfl
theorem pa118_run : evT EE [] 1000000000 (.call pa118.f pa118.args) pa118.heap (keptK pa118) = some (.bool true) := by kernel_rfl
theorem pa118_h : pa118.holds EE := ent_run envOk (fun _ h => by cases h) _ _ pa118_ok pa118_run
-- decani/office.open, 3640 steps
noncomputable def pa120 : Ent :=
  ⟨36, [.agg ⟨[iP 4, iP 0, .slice (some ⟨6, 0, none⟩) 1 18446744073709551616, .slice (some ⟨7, 0, none⟩) 1 1, .bool false, .slice none 0 0, .bool false, .slice none 0 0]⟩, .bool true], 8,
   gB ++ [(6, .cells true 4 [iP 2, iP 2, iP 1]),
    (7, .cells true 0 [iP 1, iP 1, iP 1])],
   [],
   .tuple ⟨[.agg ⟨[iP 4, iP 0, .slice (some ⟨6, 0, none⟩) 1 18446744073709551616, .slice (some ⟨7, 0, none⟩) 1 1, .bool false, .slice none 0 0, .bool false, .slice none 0 0]⟩, iP 0]⟩⟩
theorem pa120_ok : pa120.okS EE.G = true := by kernel_rfl
theorem pa120_run : evT EE [] 1000000000 (.call pa120.f pa120.args) pa120.heap (keptK pa120) = some (.bool true) := by kernel_rfl
theorem pa120_h : pa120.holds EE := ent_run envOk (fun _ h => by cases h) _ _ pa120_ok pa120_run
-- decani/cold.Ill, 3617 steps
noncomputable def pa126 : Ent :=
  ⟨12, [.agg ⟨[iP 4, iP 3, iP 1, iP 0, iP 1, iP 1, iP 1, iP 1, .slice none 0 0, iP 0, .slice none 0 0]⟩, iP 1, iP 2], 6,
   gB,
   [],
   .tuple ⟨[iP 2, iP 0]⟩⟩
theorem pa126_ok : pa126.okS EE.G = true := by kernel_rfl
theorem pa126_run : evT EE [] 1000000000 (.call pa126.f pa126.args) pa126.heap (keptK pa126) = some (.bool true) := by kernel_rfl
theorem pa126_h : pa126.holds EE := ent_run envOk (fun _ h => by cases h) _ _ pa126_ok pa126_run
-- decani/cold.Caught, 3518 steps
noncomputable def pa134 : Ent :=
  ⟨10, [.agg ⟨[iP 3, iP 4, iP 1, iP 0, iP 1, iP 1, iP 1, iP 1, .slice none 0 0, iP 0, .slice none 0 0]⟩, iP 1], 6,
   gB,
   [],
   .tuple ⟨[.agg ⟨[iP 1, iP 1]⟩, iP 0]⟩⟩
theorem pa134_ok : pa134.okS EE.G = true := by kernel_rfl
theorem pa134_run : evT EE [] 1000000000 (.call pa134.f pa134.args) pa134.heap (keptK pa134) = some (.bool true) := by kernel_rfl
theorem pa134_h : pa134.holds EE := ent_run envOk (fun _ h => by cases h) _ _ pa134_ok pa134_run
-- decani/cold.Caught, 3518 steps
noncomputable def pa140 : Ent :=
  ⟨10, [.agg ⟨[iP 3, iP 6, iP 1, iP 0, iP 1, iP 1, iP 1, iP 1, .slice none 0 0, iP 0, .slice none 0 0]⟩, iP 2], 6,
   gB,
   [],
   .tuple ⟨[.agg ⟨[iP 2, iP 2]⟩, iP 0]⟩⟩
theorem pa140_ok : pa140.okS EE.G = true := by kernel_rfl
theorem pa140_run : evT EE [] 1000000000 (.call pa140.f pa140.args) pa140.heap (keptK pa140) = some (.bool true) := by kernel_rfl
theorem pa140_h : pa140.holds EE := ent_run envOk (fun _ h => by cases h) _ _ pa140_ok pa140_run
-- decani/cold.Ill, 3516 steps
noncomputable def pa146 : Ent :=
  ⟨12, [.agg ⟨[iP 3, iP 4, iP 1, iP 0, iP 1, iP 1, iP 1, iP 1, .slice none 0 0, iP 0, .slice none 0 0]⟩, iP 2, iP 3], 6,
   gB,
   [],
   .tuple ⟨[iP 2, iP 0]⟩⟩
theorem pa146_ok : pa146.okS EE.G = true := by kernel_rfl
theorem pa146_run : evT EE [] 1000000000 (.call pa146.f pa146.args) pa146.heap (keptK pa146) = some (.bool true) := by kernel_rfl
theorem pa146_h : pa146.holds EE := ent_run envOk (fun _ h => by cases h) _ _ pa146_ok pa146_run
-- decani/cold.Ill, 3516 steps
noncomputable def pa152 : Ent :=
  ⟨12, [.agg ⟨[iP 3, iP 6, iP 1, iP 0, iP 1, iP 1, iP 1, iP 1, .slice none 0 0, iP 0, .slice none 0 0]⟩, iP 2, iP 5], 6,
   gB,
   [],
   .tuple ⟨[iP 2, iP 0]⟩⟩
theorem pa152_ok : pa152.okS EE.G = true := by kernel_rfl
theorem pa152_run : evT EE [] 1000000000 (.call pa152.f pa152.args) pa152.heap (keptK pa152) = some (.bool true) := by kernel_rfl
theorem pa152_h : pa152.holds EE := ent_run envOk (fun _ h => by cases h) _ _ pa152_ok pa152_run
-- decani/cold.Ill, 3441 steps
noncomputable def pa159 : Ent :=
  ⟨12, [.agg ⟨[iP 3, iP 1, iP 1, iP 0, iP 1, iP 1, iP 1, iP 1, .slice none 0 0, iP 0, .slice none 0 0]⟩, iP 2, iP 0], 6,
   gB,
   [],
   .tuple ⟨[iP 0, iP 0]⟩⟩
theorem pa159_ok : pa159.okS EE.G = true := by kernel_rfl
theorem pa159_run : evT EE [] 1000000000 (.call pa159.f pa159.args) pa159.heap (keptK pa159) = some (.bool true) := by kernel_rfl
theorem pa159_h : pa159.holds EE := ent_run envOk (fun _ h => by cases h) _ _ pa159_ok pa159_run
-- decani/cold.Ill, 3091 steps
noncomputable def pa165 : Ent :=
  ⟨12, [.agg ⟨[iP 4, iP 2, iP 1, iP 0, iP 1, iP 1, iP 1, iP 1, .slice none 0 0, iP 0, .slice none 0 0]⟩, iP 0, iP 1], 6,
   gB,
   [],
   .tuple ⟨[iP 2, iP 0]⟩⟩
theorem pa165_ok : pa165.okS EE.G = true := by kernel_rfl
theorem pa165_run : evT EE [] 1000000000 (.call pa165.f pa165.args) pa165.heap (keptK pa165) = some (.bool true) := by kernel_rfl
theorem pa165_h : pa165.holds EE := ent_run envOk (fun _ h => by cases h) _ _ pa165_ok pa165_run
-- decani/cold.Ill, 3058 steps
noncomputable def pa170 : Ent :=
  ⟨12, [.agg ⟨[iP 3, iP 2, iP 1, iP 0, iP 1, iP 1, iP 1, iP 1, .slice none 0 0, iP 0, .slice none 0 0]⟩, iP 1, iP 1], 6,
   gB,
   [],
   .tuple ⟨[iP 2, iP 0]⟩⟩
theorem pa170_ok : pa170.okS EE.G = true := by kernel_rfl
theorem pa170_run : evT EE [] 1000000000 (.call pa170.f pa170.args) pa170.heap (keptK pa170) = some (.bool true) := by kernel_rfl
theorem pa170_h : pa170.holds EE := ent_run envOk (fun _ h => by cases h) _ _ pa170_ok pa170_run
-- decani/cold.Caught, 2959 steps
noncomputable def pa178 : Ent :=
  ⟨10, [.agg ⟨[iP 2, iP 2, iP 1, iP 0, iP 1, iP 1, iP 1, iP 1, .slice none 0 0, iP 0, .slice none 0 0]⟩, iP 1], 6,
   gB,
   [],
   .tuple ⟨[.agg ⟨[iP 1, iP 1]⟩, iP 0]⟩⟩
theorem pa178_ok : pa178.okS EE.G = true := by kernel_rfl
theorem pa178_run : evT EE [] 1000000000 (.call pa178.f pa178.args) pa178.heap (keptK pa178) = some (.bool true) := by kernel_rfl
theorem pa178_h : pa178.holds EE := ent_run envOk (fun _ h => by cases h) _ _ pa178_ok pa178_run
-- decani/cold.Caught, 2959 steps
noncomputable def pa181 : Ent :=
  ⟨10, [.agg ⟨[iP 2, iP 4, iP 1, iP 0, iP 1, iP 1, iP 1, iP 1, .slice none 0 0, iP 0, .slice none 0 0]⟩, iP 0], 6,
   gB,
   [],
   .tuple ⟨[.agg ⟨[iP 0, iP 0]⟩, iP 0]⟩⟩
theorem pa181_ok : pa181.okS EE.G = true := by kernel_rfl
theorem pa181_run : evT EE [] 1000000000 (.call pa181.f pa181.args) pa181.heap (keptK pa181) = some (.bool true) := by kernel_rfl
theorem pa181_h : pa181.holds EE := ent_run envOk (fun _ h => by cases h) _ _ pa181_ok pa181_run
-- decani/cold.Ill, 2957 steps
noncomputable def pa187 : Ent :=
  ⟨12, [.agg ⟨[iP 2, iP 2, iP 1, iP 0, iP 1, iP 1, iP 1, iP 1, .slice none 0 0, iP 0, .slice none 0 0]⟩, iP 0, iP 1], 6,
   gB,
   [],
   .tuple ⟨[iP 2, iP 0]⟩⟩
theorem pa187_ok : pa187.okS EE.G = true := by kernel_rfl
theorem pa187_run : evT EE [] 1000000000 (.call pa187.f pa187.args) pa187.heap (keptK pa187) = some (.bool true) := by kernel_rfl
theorem pa187_h : pa187.holds EE := ent_run envOk (fun _ h => by cases h) _ _ pa187_ok pa187_run
-- decani/cold.Ill, 2957 steps
noncomputable def pa193 : Ent :=
  ⟨12, [.agg ⟨[iP 2, iP 5, iP 1, iP 0, iP 1, iP 1, iP 1, iP 1, .slice none 0 0, iP 0, .slice none 0 0]⟩, iP 0, iP 4], 6,
   gB,
   [],
   .tuple ⟨[iP 2, iP 0]⟩⟩
theorem pa193_ok : pa193.okS EE.G = true := by kernel_rfl
theorem pa193_run : evT EE [] 1000000000 (.call pa193.f pa193.args) pa193.heap (keptK pa193) = some (.bool true) := by kernel_rfl
theorem pa193_h : pa193.holds EE := ent_run envOk (fun _ h => by cases h) _ _ pa193_ok pa193_run
-- decani/cold.Caught, 2534 steps
noncomputable def pa200 : Ent :=
  ⟨10, [.agg ⟨[iP 3, iP 1, iP 1, iP 0, iP 1, iP 1, iP 1, iP 1, .slice none 0 0, iP 0, .slice none 0 0]⟩, iP 0], 6,
   gB,
   [],
   .tuple ⟨[.agg ⟨[iP 0, iP 0]⟩, iP 0]⟩⟩
theorem pa200_ok : pa200.okS EE.G = true := by kernel_rfl
theorem pa200_run : evT EE [] 1000000000 (.call pa200.f pa200.args) pa200.heap (keptK pa200) = some (.bool true) := by kernel_rfl
theorem pa200_h : pa200.holds EE := ent_run envOk (fun _ h => by cases h) _ _ pa200_ok pa200_run
-- decani/cold.Caught, 2451 steps
noncomputable def pa207 : Ent :=
  ⟨10, [.agg ⟨[iP 3, iP 1, iP 1, iP 0, iP 1, iP 1, iP 1, iP 1, .slice none 0 0, iP 0, .slice none 0 0]⟩, iP 1], 6,
   gB,
   [],
   .tuple ⟨[.agg ⟨[iP 0, iP 0]⟩, iP 4]⟩⟩
theorem pa207_ok : pa207.okS EE.G = true := by kernel_rfl
theorem pa207_run : evT EE [] 1000000000 (.call pa207.f pa207.args) pa207.heap (keptK pa207) = some (.bool true) := by kernel_rfl
theorem pa207_h : pa207.holds EE := ent_run envOk (fun _ h => by cases h) _ _ pa207_ok pa207_run
-- decani/cold.Caught, 2400 steps
noncomputable def pa212 : Ent :=
  ⟨10, [.agg ⟨[iP 1, iP 3, iP 1, iP 0, iP 1, iP 1, iP 1, iP 1, .slice none 0 0, iP 0, .slice none 0 0]⟩, iP 0], 6,
   gB,
   [],
   .tuple ⟨[.agg ⟨[iP 0, iP 0]⟩, iP 0]⟩⟩
theorem pa212_ok : pa212.okS EE.G = true := by kernel_rfl
theorem pa212_run : evT EE [] 1000000000 (.call pa212.f pa212.args) pa212.heap (keptK pa212) = some (.bool true) := by kernel_rfl
theorem pa212_h : pa212.holds EE := ent_run envOk (fun _ h => by cases h) _ _ pa212_ok pa212_run
-- decani/cold.Ill, 2398 steps
noncomputable def pa218 : Ent :=
  ⟨12, [.agg ⟨[iP 1, iP 3, iP 1, iP 0, iP 1, iP 1, iP 1, iP 1, .slice none 0 0, iP 0, .slice none 0 0]⟩, iP 0, iP 2], 6,
   gB,
   [],
   .tuple ⟨[iP 2, iP 0]⟩⟩
theorem pa218_ok : pa218.okS EE.G = true := by kernel_rfl
theorem pa218_run : evT EE [] 1000000000 (.call pa218.f pa218.args) pa218.heap (keptK pa218) = some (.bool true) := by kernel_rfl
theorem pa218_h : pa218.holds EE := ent_run envOk (fun _ h => by cases h) _ _ pa218_ok pa218_run
-- decani/cold.Clean, 2263 steps
noncomputable def pa224 : Ent :=
  ⟨15, [.agg ⟨[iP 1, iP 1, iP 1, iP 0, iP 1, iP 1, iP 1, iP 1, .slice none 0 0, iP 0, .slice none 0 0]⟩], 6,
   gB,
   [],
   .tuple ⟨[.slice none 0 0, iP 0]⟩⟩
theorem pa224_ok : pa224.okS EE.G = true := by kernel_rfl
theorem pa224_run : evT EE [] 1000000000 (.call pa224.f pa224.args) pa224.heap (keptK pa224) = some (.bool true) := by kernel_rfl
theorem pa224_h : pa224.holds EE := ent_run envOk (fun _ h => by cases h) _ _ pa224_ok pa224_run
-- decani/cold.Clean, 2263 steps
noncomputable def pa228 : Ent :=
  ⟨15, [.agg ⟨[iP 1, iP 5, iP 1, iP 0, iP 1, iP 1, iP 1, iP 1, .slice none 0 0, iP 0, .slice none 0 0]⟩], 6,
   gB,
   [],
   .tuple ⟨[.slice none 0 0, iP 0]⟩⟩
theorem pa228_ok : pa228.okS EE.G = true := by kernel_rfl
theorem pa228_run : evT EE [] 1000000000 (.call pa228.f pa228.args) pa228.heap (keptK pa228) = some (.bool true) := by kernel_rfl
theorem pa228_h : pa228.holds EE := ent_run envOk (fun _ h => by cases h) _ _ pa228_ok pa228_run
end Go.Proofs.YtmjpnohpmfmdlaaGreatDoor
