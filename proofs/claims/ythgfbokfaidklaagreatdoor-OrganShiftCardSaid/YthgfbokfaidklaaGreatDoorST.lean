/- The chapter's examples: the closed call's run over the tables of known calls. No conditions. -/
import Derived.Test.YthgfbokfaidklaaGreatDoorSM0
import Derived.Test.YthgfbokfaidklaaGreatDoorSM1
import Derived.Test.YthgfbokfaidklaaGreatDoorSM2
import Derived.Test.YthgfbokfaidklaaGreatDoorSM3
import Derived.Test.YthgfbokfaidklaaGreatDoorSM4
import Derived.Test.YthgfbokfaidklaaGreatDoorSM5
import Derived.Test.YthgfbokfaidklaaGreatDoorSM6
import Derived.Test.YthgfbokfaidklaaGreatDoorSM7
import Derived.Test.YthgfbokfaidklaaGreatDoorSM8
import Derived.Test.YthgfbokfaidklaaGreatDoorSM9
import Derived.Test.YthgfbokfaidklaaGreatDoorSM10
import Derived.Test.YthgfbokfaidklaaGreatDoorSM11
import Derived.Test.YthgfbokfaidklaaGreatDoorSM12
import Derived.Test.YthgfbokfaidklaaGreatDoorSM13
import Derived.Test.YthgfbokfaidklaaGreatDoorSM14
import Derived.Test.YthgfbokfaidklaaGreatDoorSM15
import Derived.Test.YthgfbokfaidklaaGreatDoorSM16
import Derived.Test.YthgfbokfaidklaaGreatDoorSM17
import Derived.Test.YthgfbokfaidklaaGreatDoorSM18
import Derived.Test.YthgfbokfaidklaaGreatDoorSM19
import Derived.Test.YthgfbokfaidklaaGreatDoorSM20
import Derived.Test.YthgfbokfaidklaaGreatDoorSM21
import Derived.Test.YthgfbokfaidklaaGreatDoorSM22
set_option linter.all false
namespace Go.Proofs.YthgfbokfaidklaaGreatDoor
open Go.Ai
noncomputable def smT : List Ent := [sm0, sm1, sm2, sm3, sm4, sm5, sm6, sm7, sm8, sm9, sm10, sm11, sm12, sm13, sm14, sm15, sm16, sm17, sm18, sm19, sm20, sm21, sm22, sm23, sm24, sm25, sm26, sm27, sm28, sm29, sm30, sm31, sm32, sm33, sm34, sm35, sm36, sm37, sm38, sm39, sm40, sm41, sm42, sm43, sm44, sm45, sm46, sm47, sm48, sm49, sm50, sm51, sm52, sm53, sm54, sm55, sm56, sm57, sm58, sm59, sm60]
set_option maxRecDepth 1000000
theorem smT_holds : ∀ e ∈ smT, e.holds EE :=
  List.forall_mem_cons.2 ⟨sm0_h,
  List.forall_mem_cons.2 ⟨sm1_h,
  List.forall_mem_cons.2 ⟨sm2_h,
  List.forall_mem_cons.2 ⟨sm3_h,
  List.forall_mem_cons.2 ⟨sm4_h,
  List.forall_mem_cons.2 ⟨sm5_h,
  List.forall_mem_cons.2 ⟨sm6_h,
  List.forall_mem_cons.2 ⟨sm7_h,
  List.forall_mem_cons.2 ⟨sm8_h,
  List.forall_mem_cons.2 ⟨sm9_h,
  List.forall_mem_cons.2 ⟨sm10_h,
  List.forall_mem_cons.2 ⟨sm11_h,
  List.forall_mem_cons.2 ⟨sm12_h,
  List.forall_mem_cons.2 ⟨sm13_h,
  List.forall_mem_cons.2 ⟨sm14_h,
  List.forall_mem_cons.2 ⟨sm15_h,
  List.forall_mem_cons.2 ⟨sm16_h,
  List.forall_mem_cons.2 ⟨sm17_h,
  List.forall_mem_cons.2 ⟨sm18_h,
  List.forall_mem_cons.2 ⟨sm19_h,
  List.forall_mem_cons.2 ⟨sm20_h,
  List.forall_mem_cons.2 ⟨sm21_h,
  List.forall_mem_cons.2 ⟨sm22_h,
  List.forall_mem_cons.2 ⟨sm23_h,
  List.forall_mem_cons.2 ⟨sm24_h,
  List.forall_mem_cons.2 ⟨sm25_h,
  List.forall_mem_cons.2 ⟨sm26_h,
  List.forall_mem_cons.2 ⟨sm27_h,
  List.forall_mem_cons.2 ⟨sm28_h,
  List.forall_mem_cons.2 ⟨sm29_h,
  List.forall_mem_cons.2 ⟨sm30_h,
  List.forall_mem_cons.2 ⟨sm31_h,
  List.forall_mem_cons.2 ⟨sm32_h,
  List.forall_mem_cons.2 ⟨sm33_h,
  List.forall_mem_cons.2 ⟨sm34_h,
  List.forall_mem_cons.2 ⟨sm35_h,
  List.forall_mem_cons.2 ⟨sm36_h,
  List.forall_mem_cons.2 ⟨sm37_h,
  List.forall_mem_cons.2 ⟨sm38_h,
  List.forall_mem_cons.2 ⟨sm39_h,
  List.forall_mem_cons.2 ⟨sm40_h,
  List.forall_mem_cons.2 ⟨sm41_h,
  List.forall_mem_cons.2 ⟨sm42_h,
  List.forall_mem_cons.2 ⟨sm43_h,
  List.forall_mem_cons.2 ⟨sm44_h,
  List.forall_mem_cons.2 ⟨sm45_h,
  List.forall_mem_cons.2 ⟨sm46_h,
  List.forall_mem_cons.2 ⟨sm47_h,
  List.forall_mem_cons.2 ⟨sm48_h,
  List.forall_mem_cons.2 ⟨sm49_h,
  List.forall_mem_cons.2 ⟨sm50_h,
  List.forall_mem_cons.2 ⟨sm51_h,
  List.forall_mem_cons.2 ⟨sm52_h,
  List.forall_mem_cons.2 ⟨sm53_h,
  List.forall_mem_cons.2 ⟨sm54_h,
  List.forall_mem_cons.2 ⟨sm55_h,
  List.forall_mem_cons.2 ⟨sm56_h,
  List.forall_mem_cons.2 ⟨sm57_h,
  List.forall_mem_cons.2 ⟨sm58_h,
  List.forall_mem_cons.2 ⟨sm59_h,
  List.forall_mem_cons.2 ⟨sm60_h,
  (fun _ h => by cases h)⟩⟩⟩⟩⟩⟩⟩⟩⟩⟩⟩⟩⟩⟩⟩⟩⟩⟩⟩⟩⟩⟩⟩⟩⟩⟩⟩⟩⟩⟩⟩⟩⟩⟩⟩⟩⟩⟩⟩⟩⟩⟩⟩⟩⟩⟩⟩⟩⟩⟩⟩⟩⟩⟩⟩⟩⟩⟩⟩⟩⟩
end Go.Proofs.YthgfbokfaidklaaGreatDoor
namespace Go.Proofs.YthgfbokfaidklaaGreatDoor
open Go.Ai
set_option maxRecDepth 1000000
-- decani/organ.Pitch, 23125 steps
noncomputable def sx0 : Ent :=
  ⟨18, [.agg ⟨[iP 3, .slice (some ⟨3, 0, none⟩) 3 3, .slice (some ⟨4, 0, none⟩) 1 1, .slice (some ⟨5, 0, none⟩) 2 2, iP 4, .slice none 0 0]⟩, iP 2], 6,
   gC ++ [(3, .cells true 0 [iP 0, iP 1, iP 0, iP 2, iP 1, iP 2, iP 1, iP 1, iP 0, iP 2, iP 4, iP 1]),
    (4, .cells true 0 [iP 0, iP 10, iP 1]),
    (5, .cells true 0 [iP 5, iP 6, iP 20, iP 21, iP 1, iP 2, iP 2, iP 3, iP 1, iP 3, iP 5, iP 8, iP 8, iP 18, iP 18, iP 0, iP 1, iP 1, iP 1, iP 0, iP 6, iP 7])],
   [],
   .tuple ⟨[.agg ⟨[iP 12, iP 15]⟩, iP 0]⟩⟩
theorem sx0_ok : sx0.okS EE.G = true := by kernel_rfl
theorem sx0_run : evT EE smT 1000000000 (.call sx0.f sx0.args) sx0.heap (keptK sx0) = some (.bool true) := by kernel_rfl
theorem sx0_h : sx0.holds EE := ent_run envOk smT_holds _ _ sx0_ok sx0_run
-- decani/organ.Sharp, 25174 steps
noncomputable def sx2 : Ent :=
  ⟨13, [.agg ⟨[iP 3, .slice (some ⟨3, 0, none⟩) 3 3, .slice (some ⟨4, 0, none⟩) 1 1, .slice (some ⟨5, 0, none⟩) 2 2, iP 4, .slice none 0 0]⟩], 6,
   gC ++ [(3, .cells true 0 [iP 0, iP 1, iP 0, iP 2, iP 1, iP 2, iP 1, iP 1, iP 0, iP 2, iP 4, iP 1]),
    (4, .cells true 0 [iP 0, iP 10, iP 1]),
    (5, .cells true 0 [iP 5, iP 6, iP 20, iP 21, iP 1, iP 2, iP 2, iP 3, iP 1, iP 3, iP 5, iP 8, iP 8, iP 18, iP 18, iP 0, iP 1, iP 1, iP 1, iP 0, iP 6, iP 7])],
   [],
   .tuple ⟨[.agg ⟨[iP 0, iP 2]⟩, iP 0]⟩⟩
theorem sx2_ok : sx2.okS EE.G = true := by kernel_rfl
theorem sx2_run : evT EE smT 1000000000 (.call sx2.f sx2.args) sx2.heap (keptK sx2) = some (.bool true) := by kernel_rfl
theorem sx2_h : sx2.holds EE := ent_run envOk smT_holds _ _ sx2_ok sx2_run
-- decani/organ.Keys, 184868 steps
noncomputable def sx4 : Ent :=
  ⟨11, [.agg ⟨[iP 3, .slice (some ⟨3, 0, none⟩) 3 3, .slice (some ⟨4, 0, none⟩) 1 1, .slice (some ⟨5, 0, none⟩) 2 2, iP 4, .slice none 0 0]⟩, iP 0, .slice (some ⟨6, 0, none⟩) 1 1], 7,
   gC ++ [(3, .cells true 0 [iP 0, iP 1, iP 0, iP 2, iP 1, iP 2, iP 1, iP 1, iP 0, iP 2, iP 4, iP 1]),
    (4, .cells true 0 [iP 0, iP 10, iP 1]),
    (5, .cells true 0 [iP 5, iP 6, iP 20, iP 21, iP 1, iP 2, iP 2, iP 3, iP 1, iP 3, iP 5, iP 8, iP 8, iP 18, iP 18, iP 0, iP 1, iP 1, iP 1, iP 0, iP 6, iP 7]),
    (6, .cells true 0 [iP 1, iP 10, iP 18])],
   [.cells true 2 [iN 1]],
   .tuple ⟨[.slice (some ⟨7, 0, none⟩) 1 18446744073709551616, iP 0]⟩⟩
theorem sx4_ok : sx4.okS EE.G = true := by kernel_rfl
theorem sx4_run : evT EE smT 1000000000 (.call sx4.f sx4.args) sx4.heap (keptK sx4) = some (.bool true) := by kernel_rfl
theorem sx4_h : sx4.holds EE := ent_run envOk smT_holds _ _ sx4_ok sx4_run
-- decani/organ.Fits, 40752 steps
noncomputable def sx6 : Ent :=
  ⟨26, [.agg ⟨[iP 3, .slice (some ⟨3, 0, none⟩) 3 3, .slice (some ⟨4, 0, none⟩) 1 1, .slice (some ⟨5, 0, none⟩) 2 2, iP 4, .slice none 0 0]⟩, .agg ⟨[iP 0, iP 1, iP 4, iP 2]⟩], 6,
   gC ++ [(3, .cells true 0 [iP 0, iP 1, iP 0, iP 2, iP 1, iP 2, iP 1, iP 1, iP 0, iP 2, iP 4, iP 1]),
    (4, .cells true 0 [iP 0, iP 10, iP 1]),
    (5, .cells true 0 [iP 5, iP 6, iP 20, iP 21, iP 1, iP 2, iP 2, iP 3, iP 1, iP 3, iP 5, iP 8, iP 8, iP 18, iP 18, iP 0, iP 1, iP 1, iP 1, iP 0, iP 6, iP 7])],
   [],
   .tuple ⟨[.bool true, iP 0]⟩⟩
theorem sx6_ok : sx6.okS EE.G = true := by kernel_rfl
theorem sx6_run : evT EE smT 1000000000 (.call sx6.f sx6.args) sx6.heap (keptK sx6) = some (.bool true) := by kernel_rfl
theorem sx6_h : sx6.holds EE := ent_run envOk smT_holds _ _ sx6_ok sx6_run
-- decani/organ.Right, 22808 steps
noncomputable def sx8 : Ent :=
  ⟨30, [.agg ⟨[iP 3, .slice (some ⟨3, 0, none⟩) 3 3, .slice (some ⟨4, 0, none⟩) 1 1, .slice (some ⟨5, 0, none⟩) 2 2, iP 4, .slice none 0 0]⟩], 6,
   gC ++ [(3, .cells true 0 [iP 0, iP 1, iP 0, iP 2, iP 1, iP 2, iP 1, iP 1, iP 0, iP 2, iP 4, iP 1]),
    (4, .cells true 0 [iP 0, iP 10, iP 1]),
    (5, .cells true 0 [iP 5, iP 6, iP 20, iP 21, iP 1, iP 2, iP 2, iP 3, iP 1, iP 3, iP 5, iP 8, iP 8, iP 18, iP 18, iP 0, iP 1, iP 1, iP 1, iP 0, iP 6, iP 7])],
   [],
   .tuple ⟨[.bool true, iP 0]⟩⟩
theorem sx8_ok : sx8.okS EE.G = true := by kernel_rfl
theorem sx8_run : evT EE smT 1000000000 (.call sx8.f sx8.args) sx8.heap (keptK sx8) = some (.bool true) := by kernel_rfl
theorem sx8_h : sx8.holds EE := ent_run envOk smT_holds _ _ sx8_ok sx8_run
end Go.Proofs.YthgfbokfaidklaaGreatDoor
namespace Go.Proofs.YthgfbokfaidklaaGreatDoor
open Go.Ai
set_option maxRecDepth 1000000
-- decani/organ.Apart, 23135 steps
noncomputable def sx1 : Ent :=
  ⟨17, [.agg ⟨[iP 3, .slice (some ⟨3, 0, none⟩) 3 3, .slice (some ⟨4, 0, none⟩) 1 1, .slice (some ⟨5, 0, none⟩) 2 2, iP 4, .slice none 0 0]⟩, iP 0, iP 2], 6,
   gC ++ [(3, .cells true 0 [iP 0, iP 1, iP 0, iP 2, iP 1, iP 2, iP 1, iP 1, iP 0, iP 2, iP 4, iP 1]),
    (4, .cells true 0 [iP 0, iP 10, iP 1]),
    (5, .cells true 0 [iP 5, iP 6, iP 20, iP 21, iP 1, iP 2, iP 2, iP 3, iP 1, iP 3, iP 5, iP 8, iP 8, iP 18, iP 18, iP 0, iP 1, iP 1, iP 1, iP 0, iP 6, iP 7])],
   [],
   .tuple ⟨[.agg ⟨[iP 3, iP 4]⟩, iP 0]⟩⟩
theorem sx1_ok : sx1.okS EE.G = true := by kernel_rfl
theorem sx1_run : evT EE smT 1000000000 (.call sx1.f sx1.args) sx1.heap (keptK sx1) = some (.bool true) := by kernel_rfl
theorem sx1_h : sx1.holds EE := ent_run envOk smT_holds _ _ sx1_ok sx1_run
-- decani/organ.Keys, 850764 steps
noncomputable def sx3 : Ent :=
  ⟨11, [.agg ⟨[iP 3, .slice (some ⟨3, 0, none⟩) 3 3, .slice (some ⟨4, 0, none⟩) 1 1, .slice (some ⟨5, 0, none⟩) 2 2, iP 4, .slice none 0 0]⟩, iP 0, .slice (some ⟨6, 0, none⟩) 2 2], 7,
   gC ++ [(3, .cells true 0 [iP 0, iP 1, iP 0, iP 2, iP 1, iP 2, iP 1, iP 1, iP 0, iP 2, iP 4, iP 1]),
    (4, .cells true 0 [iP 0, iP 10, iP 1]),
    (5, .cells true 0 [iP 5, iP 6, iP 20, iP 21, iP 1, iP 2, iP 2, iP 3, iP 1, iP 3, iP 5, iP 8, iP 8, iP 18, iP 18, iP 0, iP 1, iP 1, iP 1, iP 0, iP 6, iP 7]),
    (6, .cells true 0 [iP 0, iP 8, iP 15, iP 1, iP 10, iP 14])],
   [.cells true 2 [iN 1, iN 0, iP 0, iP 1, iP 2]],
   .tuple ⟨[.slice (some ⟨7, 0, none⟩) 5 18446744073709551616, iP 0]⟩⟩
theorem sx3_ok : sx3.okS EE.G = true := by kernel_rfl
theorem sx3_run : evT EE smT 1000000000 (.call sx3.f sx3.args) sx3.heap (keptK sx3) = some (.bool true) := by kernel_rfl
theorem sx3_h : sx3.holds EE := ent_run envOk smT_holds _ _ sx3_ok sx3_run
-- decani/organ.Best, 184990 steps
noncomputable def sx5 : Ent :=
  ⟨12, [.agg ⟨[iP 3, .slice (some ⟨3, 0, none⟩) 3 3, .slice (some ⟨4, 0, none⟩) 1 1, .slice (some ⟨5, 0, none⟩) 2 2, iP 4, .slice none 0 0]⟩, iP 0, .slice (some ⟨6, 0, none⟩) 1 1], 7,
   gC ++ [(3, .cells true 0 [iP 0, iP 1, iP 0, iP 2, iP 1, iP 2, iP 1, iP 1, iP 0, iP 2, iP 4, iP 1]),
    (4, .cells true 0 [iP 0, iP 10, iP 1]),
    (5, .cells true 0 [iP 5, iP 6, iP 20, iP 21, iP 1, iP 2, iP 2, iP 3, iP 1, iP 3, iP 5, iP 8, iP 8, iP 18, iP 18, iP 0, iP 1, iP 1, iP 1, iP 0, iP 6, iP 7]),
    (6, .cells true 0 [iP 1, iP 10, iP 18])],
   [],
   .tuple ⟨[iN 1, iP 0]⟩⟩
theorem sx5_ok : sx5.okS EE.G = true := by kernel_rfl
theorem sx5_run : evT EE smT 1000000000 (.call sx5.f sx5.args) sx5.heap (keptK sx5) = some (.bool true) := by kernel_rfl
theorem sx5_h : sx5.holds EE := ent_run envOk smT_holds _ _ sx5_ok sx5_run
-- decani/organ.Wrong, 234237 steps
noncomputable def sx7 : Ent :=
  ⟨28, [.agg ⟨[iP 3, .slice (some ⟨3, 0, none⟩) 4 18446744073709551616, .slice (some ⟨4, 0, none⟩) 1 1, .slice (some ⟨5, 0, none⟩) 2 2, iP 4, .slice none 0 0]⟩], 6,
   gC ++ [(3, .cells true 5 [iP 0, iP 1, iP 0, iP 2, iP 1, iP 2, iP 1, iP 1, iP 0, iP 2, iP 4, iP 1, iP 0, iP 1, iP 10, iP 1]),
    (4, .cells true 0 [iP 0, iP 10, iP 1]),
    (5, .cells true 0 [iP 5, iP 6, iP 20, iP 21, iP 1, iP 2, iP 2, iP 3, iP 1, iP 3, iP 5, iP 8, iP 8, iP 18, iP 18, iP 0, iP 1, iP 1, iP 1, iP 0, iP 6, iP 7])],
   [.cells true 2 [iP 3]],
   .tuple ⟨[.slice (some ⟨6, 0, none⟩) 1 18446744073709551616, iP 0]⟩⟩
theorem sx7_ok : sx7.okS EE.G = true := by kernel_rfl
theorem sx7_run : evT EE smT 1000000000 (.call sx7.f sx7.args) sx7.heap (keptK sx7) = some (.bool true) := by kernel_rfl
theorem sx7_h : sx7.holds EE := ent_run envOk smT_holds _ _ sx7_ok sx7_run
-- decani/organ.Check, 2336 steps
noncomputable def sx9 : Ent :=
  ⟨23, [.agg ⟨[iP 3, .slice (some ⟨3, 0, none⟩) 4 18446744073709551616, .slice (some ⟨4, 0, none⟩) 1 1, .slice (some ⟨5, 0, none⟩) 2 2, iP 4, .slice none 0 0]⟩], 6,
   gC ++ [(3, .cells true 5 [iP 0, iP 1, iP 0, iP 2, iP 1, iP 2, iP 1, iP 1, iP 0, iP 2, iP 4, iP 1, iP 0, iP 1, iP 10, iP 1]),
    (4, .cells true 0 [iP 0, iP 10, iP 1]),
    (5, .cells true 0 [iP 5, iP 6, iP 20, iP 21, iP 1, iP 2, iP 2, iP 3, iP 1, iP 3, iP 5, iP 8, iP 8, iP 18, iP 18, iP 0, iP 1, iP 1, iP 1, iP 0, iP 6, iP 7])],
   [],
   iP 0⟩
theorem sx9_ok : sx9.okS EE.G = true := by kernel_rfl
theorem sx9_run : evT EE smT 1000000000 (.call sx9.f sx9.args) sx9.heap (keptK sx9) = some (.bool true) := by kernel_rfl
theorem sx9_h : sx9.holds EE := ent_run envOk smT_holds _ _ sx9_ok sx9_run
-- decani/organ.Check, 2134 steps
noncomputable def sx10 : Ent :=
  ⟨23, [.agg ⟨[iP 3, .slice (some ⟨3, 0, none⟩) 3 3, .slice (some ⟨4, 0, none⟩) 1 1, .slice (some ⟨5, 0, none⟩) 2 2, iP 4, .slice none 0 0]⟩], 6,
   gC ++ [(3, .cells true 0 [iP 0, iP 1, iP 0, iP 2, iP 1, iP 2, iP 1, iP 1, iP 0, iP 2, iP 4, iP 1]),
    (4, .cells true 0 [iP 0, iP 10, iP 1]),
    (5, .cells true 0 [iP 5, iP 6, iP 20, iP 21, iP 1, iP 2, iP 2, iP 3, iP 1, iP 3, iP 5, iP 8, iP 8, iP 18, iP 18, iP 0, iP 1, iP 1, iP 1, iP 0, iP 6, iP 7])],
   [],
   iP 0⟩
theorem sx10_ok : sx10.okS EE.G = true := by kernel_rfl
theorem sx10_run : evT EE smT 1000000000 (.call sx10.f sx10.args) sx10.heap (keptK sx10) = some (.bool true) := by kernel_rfl
theorem sx10_h : sx10.holds EE := ent_run envOk smT_holds _ _ sx10_ok sx10_run
end Go.Proofs.YthgfbokfaidklaaGreatDoor
namespace Go.Proofs.YthgfbokfaidklaaGreatDoor
open Go.Ai
noncomputable def sxT : List Ent := [sx0, sx1, sx2, sx3, sx4, sx5, sx6, sx7, sx8, sx9, sx10]
set_option maxRecDepth 1000000
theorem sxT_holds : ∀ e ∈ sxT, e.holds EE :=
  List.forall_mem_cons.2 ⟨sx0_h,
  List.forall_mem_cons.2 ⟨sx1_h,
  List.forall_mem_cons.2 ⟨sx2_h,
  List.forall_mem_cons.2 ⟨sx3_h,
  List.forall_mem_cons.2 ⟨sx4_h,
  List.forall_mem_cons.2 ⟨sx5_h,
  List.forall_mem_cons.2 ⟨sx6_h,
  List.forall_mem_cons.2 ⟨sx7_h,
  List.forall_mem_cons.2 ⟨sx8_h,
  List.forall_mem_cons.2 ⟨sx9_h,
  List.forall_mem_cons.2 ⟨sx10_h,
  (fun _ h => by cases h)⟩⟩⟩⟩⟩⟩⟩⟩⟩⟩⟩
end Go.Proofs.YthgfbokfaidklaaGreatDoor
namespace Go.Proofs.YthgfbokfaidklaaGreatDoor
open Go.Ai
set_option maxRecDepth 1000000
noncomputable def seTop : Ent := ⟨8, [], 3, gC, [], .bool true⟩
theorem seTop_ok : seTop.okS EE.G = true := by kernel_rfl
theorem seTop_run : evT EE sxT 1000000000 (.call seTop.f seTop.args) seTop.heap (keptK seTop) = some (.bool true) := by kernel_rfl
theorem seTop_h : seTop.holds EE := ent_run envOk sxT_holds _ _ seTop_ok seTop_run
end Go.Proofs.YthgfbokfaidklaaGreatDoor
