/- Known calls, part 4: what single calls hand back, at small heaps, by the kernel's own run of the evaluator. No conditions. -/
import Derived.Test.YtmjpnohpmfmdlaaGreatDoorEnv
set_option linter.all false
namespace Go.Proofs.YtmjpnohpmfmdlaaGreatDoor
open Go.Ai
set_option maxRecDepth 1000000
-- decani/office.open, 9863 steps
noncomputable def pa4 : Ent :=
  ⟨36, [.agg ⟨[iP 6, iP 0, .slice (some ⟨6, 0, none⟩) 4 18446744073709551616, .slice (some ⟨7, 0, none⟩) 1 1, .bool false, .slice none 0 0, .bool false, .slice none 0 0]⟩, .bool true], 8,
   gB ++ [(6, .cells true 4 [iP 4, iP 4, iP 1, iP 4, iP 4, iP 1, iP 4, iP 4, iP 1, iP 4, iP 4, iP 1]),
    (7, .cells true 0 [iP 1, iP 1, iP 1])],
   [],
   .tuple ⟨[.agg ⟨[iP 6, iP 0, .slice (some ⟨6, 0, none⟩) 4 18446744073709551616, .slice (some ⟨7, 0, none⟩) 1 1, .bool false, .slice none 0 0, .bool false, .slice none 0 0]⟩, iP 0]⟩⟩
theorem pa4_ok : pa4.okS EE.G = true := by kernel_rfl
theorem pa4_run : evT EE [] 1000000000 (.call pa4.f pa4.args) pa4.heap (keptK pa4) = some (.bool true) := by kernel_rfl
theorem pa4_h : pa4.holds EE := ent_run envOk (fun _ h => by cases h) _ _ pa4_ok pa4_run
-- decani/office.open, 9294 steps
noncomputable def pa7 : Ent :=
  ⟨36, [.agg ⟨[iP 5, iP 0, .slice (some ⟨6, 0, none⟩) 4 18446744073709551616, .slice (some ⟨7, 0, none⟩) 1 1, .bool false, .slice none 0 0, .bool false, .slice none 0 0]⟩, .bool true], 8,
   gB ++ [(6, .cells true 4 [iP 2, iP 2, iP 1, iP 2, iP 2, iP 1, iP 2, iP 2, iP 1, iP 2, iP 2, iP 1]),
    (7, .cells true 0 [iP 1, iP 1, iP 1])],
   [],
   .tuple ⟨[.agg ⟨[iP 5, iP 0, .slice (some ⟨6, 0, none⟩) 4 18446744073709551616, .slice (some ⟨7, 0, none⟩) 1 1, .bool false, .slice none 0 0, .bool false, .slice none 0 0]⟩, iP 0]⟩⟩
theorem pa7_ok : pa7.okS EE.G = true := by kernel_rfl
theorem pa7_run : evT EE [] 1000000000 (.call pa7.f pa7.args) pa7.heap (keptK pa7) = some (.bool true) := by kernel_rfl
theorem pa7_h : pa7.holds EE := ent_run envOk (fun _ h => by cases h) _ _ pa7_ok pa7_run
-- decani/office.open, 8333 steps
noncomputable def pa15 : Ent :=
  ⟨36, [.agg ⟨[iP 5, iP 0, .slice (some ⟨6, 0, none⟩) 4 18446744073709551616, .slice (some ⟨7, 0, none⟩) 1 1, .bool false, .slice none 0 0, .bool false, .slice none 0 0]⟩, .bool true], 8,
   gB ++ [(6, .cells true 4 [iP 4, iP 4, iP 1, iP 4, iP 4, iP 1, iP 4, iP 4, iP 1, iP 4, iP 4, iP 1]),
    (7, .cells true 0 [iP 1, iP 1, iP 1])],
   [],
   .tuple ⟨[.agg ⟨[iP 5, iP 0, .slice (some ⟨6, 0, none⟩) 4 18446744073709551616, .slice (some ⟨7, 0, none⟩) 1 1, .bool false, .slice none 0 0, .bool false, .slice none 0 0]⟩, iP 0]⟩⟩
theorem pa15_ok : pa15.okS EE.G = true := by kernel_rfl
theorem pa15_run : evT EE [] 1000000000 (.call pa15.f pa15.args) pa15.heap (keptK pa15) = some (.bool true) := by kernel_rfl
theorem pa15_h : pa15.holds EE := ent_run envOk (fun _ h => by cases h) _ _ pa15_ok pa15_run
-- decani/office.open, 8121 steps
noncomputable def pa20 : Ent :=
  ⟨36, [.agg ⟨[iP 6, iP 0, .slice (some ⟨6, 0, none⟩) 3 18446744073709551616, .slice (some ⟨7, 0, none⟩) 1 1, .bool false, .slice none 0 0, .bool false, .slice none 0 0]⟩, .bool true], 8,
   gB ++ [(6, .cells true 4 [iP 4, iP 4, iP 1, iP 4, iP 4, iP 1, iP 4, iP 4, iP 1]),
    (7, .cells true 0 [iP 1, iP 1, iP 1])],
   [],
   .tuple ⟨[.agg ⟨[iP 6, iP 0, .slice (some ⟨6, 0, none⟩) 3 18446744073709551616, .slice (some ⟨7, 0, none⟩) 1 1, .bool false, .slice none 0 0, .bool false, .slice none 0 0]⟩, iP 0]⟩⟩
theorem pa20_ok : pa20.okS EE.G = true := by kernel_rfl
theorem pa20_run : evT EE [] 1000000000 (.call pa20.f pa20.args) pa20.heap (keptK pa20) = some (.bool true) := by kernel_rfl
theorem pa20_h : pa20.holds EE := ent_run envOk (fun _ h => by cases h) _ _ pa20_ok pa20_run
-- decani/office.open, 7355 steps
noncomputable def pa28 : Ent :=
  ⟨36, [.agg ⟨[iP 5, iP 0, .slice (some ⟨6, 0, none⟩) 3 18446744073709551616, .slice (some ⟨7, 0, none⟩) 1 1, .bool false, .slice none 0 0, .bool false, .slice none 0 0]⟩, .bool true], 8,
   gB ++ [(6, .cells true 4 [iP 2, iP 2, iP 1, iP 2, iP 2, iP 1, iP 2, iP 2, iP 1]),
    (7, .cells true 0 [iP 1, iP 1, iP 1])],
   [],
   .tuple ⟨[.agg ⟨[iP 5, iP 0, .slice (some ⟨6, 0, none⟩) 3 18446744073709551616, .slice (some ⟨7, 0, none⟩) 1 1, .bool false, .slice none 0 0, .bool false, .slice none 0 0]⟩, iP 0]⟩⟩
theorem pa28_ok : pa28.okS EE.G = true := by kernel_rfl
theorem pa28_run : evT EE [] 1000000000 (.call pa28.f pa28.args) pa28.heap (keptK pa28) = some (.bool true) := by kernel_rfl
theorem pa28_h : pa28.holds EE := ent_run envOk (fun _ h => by cases h) _ _ pa28_ok pa28_run
-- decani/office.open, 6525 steps
noncomputable def pa35 : Ent :=
  ⟨36, [.agg ⟨[iP 3, iP 0, .slice (some ⟨6, 0, none⟩) 4 18446744073709551616, .slice (some ⟨7, 0, none⟩) 1 1, .bool false, .slice none 0 0, .bool false, .slice none 0 0]⟩, .bool true], 8,
   gB ++ [(6, .cells true 4 [iP 2, iP 2, iP 1, iP 2, iP 2, iP 1, iP 2, iP 2, iP 1, iP 2, iP 2, iP 1]),
    (7, .cells true 0 [iP 1, iP 1, iP 1])],
   [],
   .tuple ⟨[.agg ⟨[iP 3, iP 0, .slice (some ⟨6, 0, none⟩) 4 18446744073709551616, .slice (some ⟨7, 0, none⟩) 1 1, .bool false, .slice none 0 0, .bool false, .slice none 0 0]⟩, iP 0]⟩⟩
theorem pa35_ok : pa35.okS EE.G = true := by kernel_rfl
theorem pa35_run : evT EE [] 1000000000 (.call pa35.f pa35.args) pa35.heap (keptK pa35) = some (.bool true) := by kernel_rfl
theorem pa35_h : pa35.holds EE := ent_run envOk (fun _ h => by cases h) _ _ pa35_ok pa35_run
-- decani/office.open, 6379 steps
noncomputable def pa38 : Ent :=
  ⟨36, [.agg ⟨[iP 6, iP 0, .slice (some ⟨6, 0, none⟩) 2 18446744073709551616, .slice (some ⟨7, 0, none⟩) 1 1, .bool false, .slice none 0 0, .bool false, .slice none 0 0]⟩, .bool true], 8,
   gB ++ [(6, .cells true 4 [iP 1, iP 1, iP 1, iP 1, iP 1, iP 1]),
    (7, .cells true 0 [iP 1, iP 1, iP 1])],
   [],
   .tuple ⟨[.agg ⟨[iP 6, iP 0, .slice (some ⟨6, 0, none⟩) 2 18446744073709551616, .slice (some ⟨7, 0, none⟩) 1 1, .bool false, .slice none 0 0, .bool false, .slice none 0 0]⟩, iP 0]⟩⟩
theorem pa38_ok : pa38.okS EE.G = true := by kernel_rfl
theorem pa38_run : evT EE [] 1000000000 (.call pa38.f pa38.args) pa38.heap (keptK pa38) = some (.bool true) := by kernel_rfl
theorem pa38_h : pa38.holds EE := ent_run envOk (fun _ h => by cases h) _ _ pa38_ok pa38_run
-- decani/office.open, 6247 steps
noncomputable def pa43 : Ent :=
  ⟨36, [.agg ⟨[iP 2, iP 0, .slice (some ⟨6, 0, none⟩) 4 18446744073709551616, .slice (some ⟨7, 0, none⟩) 1 1, .bool false, .slice none 0 0, .bool false, .slice none 0 0]⟩, .bool true], 8,
   gB ++ [(6, .cells true 4 [iP 0, iP 0, iP 1, iP 0, iP 0, iP 1, iP 0, iP 0, iP 1, iP 0, iP 0, iP 1]),
    (7, .cells true 0 [iP 1, iP 1, iP 1])],
   [],
   .tuple ⟨[.agg ⟨[iP 2, iP 0, .slice (some ⟨6, 0, none⟩) 4 18446744073709551616, .slice (some ⟨7, 0, none⟩) 1 1, .bool false, .slice none 0 0, .bool false, .slice none 0 0]⟩, iP 0]⟩⟩
theorem pa43_ok : pa43.okS EE.G = true := by kernel_rfl
theorem pa43_run : evT EE [] 1000000000 (.call pa43.f pa43.args) pa43.heap (keptK pa43) = some (.bool true) := by kernel_rfl
theorem pa43_h : pa43.holds EE := ent_run envOk (fun _ h => by cases h) _ _ pa43_ok pa43_run
-- decani/office.open, 5735 steps
noncomputable def pa50 : Ent :=
  ⟨36, [.agg ⟨[iP 3, iP 0, .slice (some ⟨6, 0, none⟩) 3 18446744073709551616, .slice (some ⟨7, 0, none⟩) 1 1, .bool false, .slice none 0 0, .bool false, .slice none 0 0]⟩, .bool true], 8,
   gB ++ [(6, .cells true 4 [iP 0, iP 0, iP 1, iP 0, iP 0, iP 1, iP 0, iP 0, iP 1]),
    (7, .cells true 0 [iP 1, iP 1, iP 1])],
   [],
   .tuple ⟨[.agg ⟨[iP 3, iP 0, .slice (some ⟨6, 0, none⟩) 3 18446744073709551616, .slice (some ⟨7, 0, none⟩) 1 1, .bool false, .slice none 0 0, .bool false, .slice none 0 0]⟩, iP 0]⟩⟩
theorem pa50_ok : pa50.okS EE.G = true := by kernel_rfl
theorem pa50_run : evT EE [] 1000000000 (.call pa50.f pa50.args) pa50.heap (keptK pa50) = some (.bool true) := by kernel_rfl
theorem pa50_h : pa50.holds EE := ent_run envOk (fun _ h => by cases h) _ _ pa50_ok pa50_run
-- decani/office.open, 5663 steps
noncomputable def pa54 : Ent :=
  ⟨36, [.agg ⟨[iP 5, iP 0, .slice (some ⟨6, 0, none⟩) 2 18446744073709551616, .slice (some ⟨7, 0, none⟩) 1 1, .bool false, .slice none 0 0, .bool false, .slice none 0 0]⟩, .bool true], 8,
   gB ++ [(6, .cells true 4 [iP 2, iP 2, iP 1, iP 2, iP 2, iP 1]),
    (7, .cells true 0 [iP 1, iP 1, iP 1])],
   [],
   .tuple ⟨[.agg ⟨[iP 5, iP 0, .slice (some ⟨6, 0, none⟩) 2 18446744073709551616, .slice (some ⟨7, 0, none⟩) 1 1, .bool false, .slice none 0 0, .bool false, .slice none 0 0]⟩, iP 0]⟩⟩
theorem pa54_ok : pa54.okS EE.G = true := by kernel_rfl
theorem pa54_run : evT EE [] 1000000000 (.call pa54.f pa54.args) pa54.heap (keptK pa54) = some (.bool true) := by kernel_rfl
theorem pa54_h : pa54.holds EE := ent_run envOk (fun _ h => by cases h) _ _ pa54_ok pa54_run
-- decani/cold.Ill, 5052 steps
noncomputable def pa61 : Ent :=
  ⟨12, [.agg ⟨[iP 4, iP 3, iP 1, iP 0, iP 1, iP 1, iP 1, iP 1, .slice none 0 0, iP 0, .slice none 0 0]⟩, iP 3, iP 2], 6,
   gB,
   [],
   .tuple ⟨[iP 0, iP 0]⟩⟩
theorem pa61_ok : pa61.okS EE.G = true := by kernel_rfl
theorem pa61_run : evT EE [] 1000000000 (.call pa61.f pa61.args) pa61.heap (keptK pa61) = some (.bool true) := by kernel_rfl
theorem pa61_h : pa61.holds EE := ent_run envOk (fun _ h => by cases h) _ _ pa61_ok pa61_run
-- decani/office.open, 4884 steps
noncomputable def pa70 : Ent :=
  ⟨36, [.agg ⟨[iP 6, iP 0, .slice (some ⟨6, 0, none⟩) 1 18446744073709551616, .slice (some ⟨7, 0, none⟩) 1 1, .bool false, .slice none 0 0, .bool false, .slice none 0 0]⟩, .bool true], 8,
   gB ++ [(6, .cells true 4 [iP 4, iP 4, iP 1]),
    (7, .cells true 0 [iP 1, iP 1, iP 1])],
   [],
   .tuple ⟨[.agg ⟨[iP 6, iP 0, .slice (some ⟨6, 0, none⟩) 1 18446744073709551616, .slice (some ⟨7, 0, none⟩) 1 1, .bool false, .slice none 0 0, .bool false, .slice none 0 0]⟩, iP 0]⟩⟩
theorem pa70_ok : pa70.okS EE.G = true := by kernel_rfl
theorem pa70_run : evT EE [] 1000000000 (.call pa70.f pa70.args) pa70.heap (keptK pa70) = some (.bool true) := by kernel_rfl
theorem pa70_h : pa70.holds EE := ent_run envOk (fun _ h => by cases h) _ _ pa70_ok pa70_run
-- decani/cold.Ill, 4263 steps
noncomputable def pa76 : Ent :=
  ⟨12, [.agg ⟨[iP 4, iP 2, iP 1, iP 0, iP 1, iP 1, iP 1, iP 1, .slice none 0 0, iP 0, .slice none 0 0]⟩, iP 2, iP 1], 6,
   gB,
   [],
   .tuple ⟨[iP 0, iP 0]⟩⟩
theorem pa76_ok : pa76.okS EE.G = true := by kernel_rfl
theorem pa76_run : evT EE [] 1000000000 (.call pa76.f pa76.args) pa76.heap (keptK pa76) = some (.bool true) := by kernel_rfl
theorem pa76_h : pa76.holds EE := ent_run envOk (fun _ h => by cases h) _ _ pa76_ok pa76_run
-- decani/office.open, 4262 steps
noncomputable def pa78 : Ent :=
  ⟨36, [.agg ⟨[iP 5, iP 0, .slice (some ⟨6, 0, none⟩) 1 18446744073709551616, .slice (some ⟨7, 0, none⟩) 1 1, .bool false, .slice none 0 0, .bool false, .slice none 0 0]⟩, .bool true], 8,
   gB ++ [(6, .cells true 4 [iP 0, iP 0, iP 1]),
    (7, .cells true 0 [iP 1, iP 1, iP 1])],
   [],
   .tuple ⟨[.agg ⟨[iP 5, iP 0, .slice (some ⟨6, 0, none⟩) 1 18446744073709551616, .slice (some ⟨7, 0, none⟩) 1 1, .bool false, .slice none 0 0, .bool false, .slice none 0 0]⟩, iP 0]⟩⟩
theorem pa78_ok : pa78.okS EE.G = true := by kernel_rfl
theorem pa78_run : evT EE [] 1000000000 (.call pa78.f pa78.args) pa78.heap (keptK pa78) = some (.bool true) := by kernel_rfl
theorem pa78_h : pa78.holds EE := ent_run envOk (fun _ h => by cases h) _ _ pa78_ok pa78_run
-- decani/office.open, 4231 steps
noncomputable def pa84 : Ent :=
  ⟨36, [.agg ⟨[iP 3, iP 0, .slice (some ⟨6, 0, none⟩) 2 18446744073709551616, .slice (some ⟨7, 0, none⟩) 1 1, .bool false, .slice none 0 0, .bool false, .slice none 0 0]⟩, .bool true], 8,
   gB ++ [(6, .cells true 4 [iP 1, iP 1, iP 1, iP 1, iP 1, iP 1]),
    (7, .cells true 0 [iP 1, iP 1, iP 1])],
   [],
   .tuple ⟨[.agg ⟨[iP 3, iP 0, .slice (some ⟨6, 0, none⟩) 2 18446744073709551616, .slice (some ⟨7, 0, none⟩) 1 1, .bool false, .slice none 0 0, .bool false, .slice none 0 0]⟩, iP 0]⟩⟩
theorem pa84_ok : pa84.okS EE.G = true := by kernel_rfl
theorem pa84_run : evT EE [] 1000000000 (.call pa84.f pa84.args) pa84.heap (keptK pa84) = some (.bool true) := by kernel_rfl
theorem pa84_h : pa84.holds EE := ent_run envOk (fun _ h => by cases h) _ _ pa84_ok pa84_run
-- decani/cold.Caught, 4077 steps
noncomputable def pa90 : Ent :=
  ⟨10, [.agg ⟨[iP 4, iP 4, iP 1, iP 0, iP 1, iP 1, iP 1, iP 1, .slice none 0 0, iP 0, .slice none 0 0]⟩, iP 2], 6,
   gB,
   [],
   .tuple ⟨[.agg ⟨[iP 2, iP 2]⟩, iP 0]⟩⟩
theorem pa90_ok : pa90.okS EE.G = true := by kernel_rfl
theorem pa90_run : evT EE [] 1000000000 (.call pa90.f pa90.args) pa90.heap (keptK pa90) = some (.bool true) := by kernel_rfl
theorem pa90_h : pa90.holds EE := ent_run envOk (fun _ h => by cases h) _ _ pa90_ok pa90_run
-- decani/cold.Caught, 4077 steps
noncomputable def pa96 : Ent :=
  ⟨10, [.agg ⟨[iP 4, iP 6, iP 1, iP 0, iP 1, iP 1, iP 1, iP 1, .slice none 0 0, iP 0, .slice none 0 0]⟩, iP 0], 6,
   gB,
   [],
   .tuple ⟨[.agg ⟨[iP 0, iP 0]⟩, iP 0]⟩⟩
theorem pa96_ok : pa96.okS EE.G = true := by kernel_rfl
theorem pa96_run : evT EE [] 1000000000 (.call pa96.f pa96.args) pa96.heap (keptK pa96) = some (.bool true) := by kernel_rfl
theorem pa96_h : pa96.holds EE := ent_run envOk (fun _ h => by cases h) _ _ pa96_ok pa96_run
-- decani/cold.Ill, 4075 steps
noncomputable def pa102 : Ent :=
  ⟨12, [.agg ⟨[iP 4, iP 4, iP 1, iP 0, iP 1, iP 1, iP 1, iP 1, .slice none 0 0, iP 0, .slice none 0 0]⟩, iP 2, iP 3], 6,
   gB,
   [],
   .tuple ⟨[iP 2, iP 0]⟩⟩
theorem pa102_ok : pa102.okS EE.G = true := by kernel_rfl
theorem pa102_run : evT EE [] 1000000000 (.call pa102.f pa102.args) pa102.heap (keptK pa102) = some (.bool true) := by kernel_rfl
theorem pa102_h : pa102.holds EE := ent_run envOk (fun _ h => by cases h) _ _ pa102_ok pa102_run
-- decani/cold.Ill, 4075 steps
noncomputable def pa108 : Ent :=
  ⟨12, [.agg ⟨[iP 4, iP 6, iP 1, iP 0, iP 1, iP 1, iP 1, iP 1, .slice none 0 0, iP 0, .slice none 0 0]⟩, iP 0, iP 5], 6,
   gB,
   [],
   .tuple ⟨[iP 2, iP 0]⟩⟩
theorem pa108_ok : pa108.okS EE.G = true := by kernel_rfl
theorem pa108_run : evT EE [] 1000000000 (.call pa108.f pa108.args) pa108.heap (keptK pa108) = some (.bool true) := by kernel_rfl
theorem pa108_h : pa108.holds EE := ent_run envOk (fun _ h => by cases h) _ _ pa108_ok pa108_run
-- decani/cold.Clean, 3923 steps
noncomputable def pa114 : Ent :=
  ⟨15, [.agg ⟨[iP 2, iP 4, iP 1, iP 0, iP 1, iP 1, iP 1, iP 1, .slice none 0 0, iP 0, .slice none 0 0]⟩], 6,
   gB,
   [],
   .tuple ⟨[.slice none 0 0, iP 0]⟩⟩
theorem pa114_ok : pa114.okS EE.G = true := by kernel_rfl
theorem pa114_run : evT EE [] 1000000000 (.call pa114.f pa114.args) pa114.heap (keptK pa114) = some (.bool true) := by kernel_rfl
theorem pa114_h : pa114.holds EE := ent_run envOk (fun _ h => by cases h) _ _ pa114_ok pa114_run
-- decani/cold.Caught, 3619 steps
noncomputable def pa123 : Ent :=
  ⟨10, [.agg ⟨[iP 4, iP 3, iP 1, iP 0, iP 1, iP 1, iP 1, iP 1, .slice none 0 0, iP 0, .slice none 0 0]⟩, iP 1], 6,
   gB,
   [],
   .tuple ⟨[.agg ⟨[iP 1, iP 1]⟩, iP 0]⟩⟩
theorem pa123_ok : pa123.okS EE.G = true := by kernel_rfl
theorem pa123_run : evT EE [] 1000000000 (.call pa123.f pa123.args) pa123.heap (keptK pa123) = some (.bool true) := by kernel_rfl
theorem pa123_h : pa123.holds EE := ent_run envOk (fun _ h => by cases h) _ _ pa123_ok pa123_run
-- decani/cold.Caught, 3518 steps
noncomputable def pa129 : Ent :=
  ⟨10, [.agg ⟨[iP 3, iP 4, iP 1, iP 0, iP 1, iP 1, iP 1, iP 1, .slice none 0 0, iP 0, .slice none 0 0]⟩, iP 2], 6,
   gB,
   [],
   .tuple ⟨[.agg ⟨[iP 2, iP 2]⟩, iP 0]⟩⟩
theorem pa129_ok : pa129.okS EE.G = true := by kernel_rfl
theorem pa129_run : evT EE [] 1000000000 (.call pa129.f pa129.args) pa129.heap (keptK pa129) = some (.bool true) := by kernel_rfl
theorem pa129_h : pa129.holds EE := ent_run envOk (fun _ h => by cases h) _ _ pa129_ok pa129_run
-- decani/cold.Caught, 3518 steps
noncomputable def pa132 : Ent :=
  ⟨10, [.agg ⟨[iP 3, iP 3, iP 1, iP 0, iP 1, iP 1, iP 1, iP 1, .slice none 0 0, iP 0, .slice none 0 0]⟩, iP 2], 6,
   gB,
   [],
   .tuple ⟨[.agg ⟨[iP 2, iP 2]⟩, iP 0]⟩⟩
theorem pa132_ok : pa132.okS EE.G = true := by kernel_rfl
theorem pa132_run : evT EE [] 1000000000 (.call pa132.f pa132.args) pa132.heap (keptK pa132) = some (.bool true) := by kernel_rfl
theorem pa132_h : pa132.holds EE := ent_run envOk (fun _ h => by cases h) _ _ pa132_ok pa132_run
-- decani/cold.Caught, 3518 steps
noncomputable def pa138 : Ent :=
  ⟨10, [.agg ⟨[iP 3, iP 6, iP 1, iP 0, iP 1, iP 1, iP 1, iP 1, .slice none 0 0, iP 0, .slice none 0 0]⟩, iP 0], 6,
   gB,
   [],
   .tuple ⟨[.agg ⟨[iP 0, iP 0]⟩, iP 0]⟩⟩
theorem pa138_ok : pa138.okS EE.G = true := by kernel_rfl
theorem pa138_run : evT EE [] 1000000000 (.call pa138.f pa138.args) pa138.heap (keptK pa138) = some (.bool true) := by kernel_rfl
theorem pa138_h : pa138.holds EE := ent_run envOk (fun _ h => by cases h) _ _ pa138_ok pa138_run
-- decani/cold.Ill, 3516 steps
noncomputable def pa144 : Ent :=
  ⟨12, [.agg ⟨[iP 3, iP 4, iP 1, iP 0, iP 1, iP 1, iP 1, iP 1, .slice none 0 0, iP 0, .slice none 0 0]⟩, iP 0, iP 3], 6,
   gB,
   [],
   .tuple ⟨[iP 2, iP 0]⟩⟩
theorem pa144_ok : pa144.okS EE.G = true := by kernel_rfl
theorem pa144_run : evT EE [] 1000000000 (.call pa144.f pa144.args) pa144.heap (keptK pa144) = some (.bool true) := by kernel_rfl
theorem pa144_h : pa144.holds EE := ent_run envOk (fun _ h => by cases h) _ _ pa144_ok pa144_run
-- decani/cold.Ill, 3516 steps
noncomputable def pa150 : Ent :=
  ⟨12, [.agg ⟨[iP 3, iP 6, iP 1, iP 0, iP 1, iP 1, iP 1, iP 1, .slice none 0 0, iP 0, .slice none 0 0]⟩, iP 0, iP 5], 6,
   gB,
   [],
   .tuple ⟨[iP 2, iP 0]⟩⟩
theorem pa150_ok : pa150.okS EE.G = true := by kernel_rfl
theorem pa150_run : evT EE [] 1000000000 (.call pa150.f pa150.args) pa150.heap (keptK pa150) = some (.bool true) := by kernel_rfl
theorem pa150_h : pa150.holds EE := ent_run envOk (fun _ h => by cases h) _ _ pa150_ok pa150_run
-- decani/cold.Ill, 3474 steps
noncomputable def pa156 : Ent :=
  ⟨12, [.agg ⟨[iP 4, iP 1, iP 1, iP 0, iP 1, iP 1, iP 1, iP 1, .slice none 0 0, iP 0, .slice none 0 0]⟩, iP 3, iP 0], 6,
   gB,
   [],
   .tuple ⟨[iP 0, iP 0]⟩⟩
theorem pa156_ok : pa156.okS EE.G = true := by kernel_rfl
theorem pa156_run : evT EE [] 1000000000 (.call pa156.f pa156.args) pa156.heap (keptK pa156) = some (.bool true) := by kernel_rfl
theorem pa156_h : pa156.holds EE := ent_run envOk (fun _ h => by cases h) _ _ pa156_ok pa156_run
-- decani/cold.Ill, 3091 steps
noncomputable def pa166 : Ent :=
  ⟨12, [.agg ⟨[iP 4, iP 2, iP 1, iP 0, iP 1, iP 1, iP 1, iP 1, .slice none 0 0, iP 0, .slice none 0 0]⟩, iP 1, iP 1], 6,
   gB,
   [],
   .tuple ⟨[iP 2, iP 0]⟩⟩
theorem pa166_ok : pa166.okS EE.G = true := by kernel_rfl
theorem pa166_run : evT EE [] 1000000000 (.call pa166.f pa166.args) pa166.heap (keptK pa166) = some (.bool true) := by kernel_rfl
theorem pa166_h : pa166.holds EE := ent_run envOk (fun _ h => by cases h) _ _ pa166_ok pa166_run
-- decani/office.open, 3018 steps
noncomputable def pa172 : Ent :=
  ⟨36, [.agg ⟨[iP 3, iP 0, .slice (some ⟨6, 0, none⟩) 1 18446744073709551616, .slice (some ⟨7, 0, none⟩) 1 1, .bool false, .slice none 0 0, .bool false, .slice none 0 0]⟩, .bool true], 8,
   gB ++ [(6, .cells true 4 [iP 1, iP 1, iP 1]),
    (7, .cells true 0 [iP 1, iP 1, iP 1])],
   [],
   .tuple ⟨[.agg ⟨[iP 3, iP 0, .slice (some ⟨6, 0, none⟩) 1 18446744073709551616, .slice (some ⟨7, 0, none⟩) 1 1, .bool false, .slice none 0 0, .bool false, .slice none 0 0]⟩, iP 0]⟩⟩
theorem pa172_ok : pa172.okS EE.G = true := by kernel_rfl
theorem pa172_run : evT EE [] 1000000000 (.call pa172.f pa172.args) pa172.heap (keptK pa172) = some (.bool true) := by kernel_rfl
theorem pa172_h : pa172.holds EE := ent_run envOk (fun _ h => by cases h) _ _ pa172_ok pa172_run
-- decani/cold.Caught, 3010 steps
noncomputable def pa175 : Ent :=
  ⟨10, [.agg ⟨[iP 4, iP 2, iP 1, iP 0, iP 1, iP 1, iP 1, iP 1, .slice none 0 0, iP 0, .slice none 0 0]⟩, iP 3], 6,
   gB,
   [],
   .tuple ⟨[.agg ⟨[iP 0, iP 0]⟩, iP 4]⟩⟩
theorem pa175_ok : pa175.okS EE.G = true := by kernel_rfl
theorem pa175_run : evT EE [] 1000000000 (.call pa175.f pa175.args) pa175.heap (keptK pa175) = some (.bool true) := by kernel_rfl
theorem pa175_h : pa175.holds EE := ent_run envOk (fun _ h => by cases h) _ _ pa175_ok pa175_run
-- decani/cold.Caught, 2959 steps
noncomputable def pa184 : Ent :=
  ⟨10, [.agg ⟨[iP 2, iP 5, iP 1, iP 0, iP 1, iP 1, iP 1, iP 1, .slice none 0 0, iP 0, .slice none 0 0]⟩, iP 1], 6,
   gB,
   [],
   .tuple ⟨[.agg ⟨[iP 1, iP 1]⟩, iP 0]⟩⟩
theorem pa184_ok : pa184.okS EE.G = true := by kernel_rfl
theorem pa184_run : evT EE [] 1000000000 (.call pa184.f pa184.args) pa184.heap (keptK pa184) = some (.bool true) := by kernel_rfl
theorem pa184_h : pa184.holds EE := ent_run envOk (fun _ h => by cases h) _ _ pa184_ok pa184_run
-- decani/cold.Ill, 2957 steps
noncomputable def pa190 : Ent :=
  ⟨12, [.agg ⟨[iP 2, iP 3, iP 1, iP 0, iP 1, iP 1, iP 1, iP 1, .slice none 0 0, iP 0, .slice none 0 0]⟩, iP 1, iP 2], 6,
   gB,
   [],
   .tuple ⟨[iP 2, iP 0]⟩⟩
theorem pa190_ok : pa190.okS EE.G = true := by kernel_rfl
theorem pa190_run : evT EE [] 1000000000 (.call pa190.f pa190.args) pa190.heap (keptK pa190) = some (.bool true) := by kernel_rfl
theorem pa190_h : pa190.holds EE := ent_run envOk (fun _ h => by cases h) _ _ pa190_ok pa190_run
-- decani/cold.Ill, 2957 steps
noncomputable def pa196 : Ent :=
  ⟨12, [.agg ⟨[iP 2, iP 6, iP 1, iP 0, iP 1, iP 1, iP 1, iP 1, .slice none 0 0, iP 0, .slice none 0 0]⟩, iP 1, iP 5], 6,
   gB,
   [],
   .tuple ⟨[iP 2, iP 0]⟩⟩
theorem pa196_ok : pa196.okS EE.G = true := by kernel_rfl
theorem pa196_run : evT EE [] 1000000000 (.call pa196.f pa196.args) pa196.heap (keptK pa196) = some (.bool true) := by kernel_rfl
theorem pa196_h : pa196.holds EE := ent_run envOk (fun _ h => by cases h) _ _ pa196_ok pa196_run
-- decani/cold.Ill, 2499 steps
noncomputable def pa203 : Ent :=
  ⟨12, [.agg ⟨[iP 2, iP 1, iP 1, iP 0, iP 1, iP 1, iP 1, iP 1, .slice none 0 0, iP 0, .slice none 0 0]⟩, iP 0, iP 0], 6,
   gB,
   [],
   .tuple ⟨[iP 2, iP 0]⟩⟩
theorem pa203_ok : pa203.okS EE.G = true := by kernel_rfl
theorem pa203_run : evT EE [] 1000000000 (.call pa203.f pa203.args) pa203.heap (keptK pa203) = some (.bool true) := by kernel_rfl
theorem pa203_h : pa203.holds EE := ent_run envOk (fun _ h => by cases h) _ _ pa203_ok pa203_run
-- decani/cold.Caught, 2484 steps
noncomputable def pa206 : Ent :=
  ⟨10, [.agg ⟨[iP 4, iP 1, iP 1, iP 0, iP 1, iP 1, iP 1, iP 1, .slice none 0 0, iP 0, .slice none 0 0]⟩, iP 3], 6,
   gB,
   [],
   .tuple ⟨[.agg ⟨[iP 0, iP 0]⟩, iP 4]⟩⟩
theorem pa206_ok : pa206.okS EE.G = true := by kernel_rfl
theorem pa206_run : evT EE [] 1000000000 (.call pa206.f pa206.args) pa206.heap (keptK pa206) = some (.bool true) := by kernel_rfl
theorem pa206_h : pa206.holds EE := ent_run envOk (fun _ h => by cases h) _ _ pa206_ok pa206_run
-- decani/cold.Caught, 2400 steps
noncomputable def pa215 : Ent :=
  ⟨10, [.agg ⟨[iP 1, iP 6, iP 1, iP 0, iP 1, iP 1, iP 1, iP 1, .slice none 0 0, iP 0, .slice none 0 0]⟩, iP 0], 6,
   gB,
   [],
   .tuple ⟨[.agg ⟨[iP 0, iP 0]⟩, iP 0]⟩⟩
theorem pa215_ok : pa215.okS EE.G = true := by kernel_rfl
theorem pa215_run : evT EE [] 1000000000 (.call pa215.f pa215.args) pa215.heap (keptK pa215) = some (.bool true) := by kernel_rfl
theorem pa215_h : pa215.holds EE := ent_run envOk (fun _ h => by cases h) _ _ pa215_ok pa215_run
-- decani/cold.Ill, 2398 steps
noncomputable def pa221 : Ent :=
  ⟨12, [.agg ⟨[iP 1, iP 6, iP 1, iP 0, iP 1, iP 1, iP 1, iP 1, .slice none 0 0, iP 0, .slice none 0 0]⟩, iP 0, iP 5], 6,
   gB,
   [],
   .tuple ⟨[iP 2, iP 0]⟩⟩
theorem pa221_ok : pa221.okS EE.G = true := by kernel_rfl
theorem pa221_run : evT EE [] 1000000000 (.call pa221.f pa221.args) pa221.heap (keptK pa221) = some (.bool true) := by kernel_rfl
theorem pa221_h : pa221.holds EE := ent_run envOk (fun _ h => by cases h) _ _ pa221_ok pa221_run
-- decani/cold.Clean, 2263 steps
noncomputable def pa227 : Ent :=
  ⟨15, [.agg ⟨[iP 1, iP 4, iP 1, iP 0, iP 1, iP 1, iP 1, iP 1, .slice none 0 0, iP 0, .slice none 0 0]⟩], 6,
   gB,
   [],
   .tuple ⟨[.slice none 0 0, iP 0]⟩⟩
theorem pa227_ok : pa227.okS EE.G = true := by kernel_rfl
theorem pa227_run : evT EE [] 1000000000 (.call pa227.f pa227.args) pa227.heap (keptK pa227) = some (.bool true) := by kernel_rfl
theorem pa227_h : pa227.holds EE := ent_run envOk (fun _ h => by cases h) _ _ pa227_ok pa227_run
end Go.Proofs.YtmjpnohpmfmdlaaGreatDoor
