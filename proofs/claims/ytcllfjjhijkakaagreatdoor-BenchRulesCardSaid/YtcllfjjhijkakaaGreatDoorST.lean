/- The chapter's examples: the closed call's run over the tables of known calls. No conditions. -/
import Derived.Test.YtcllfjjhijkakaaGreatDoorSM0
import Derived.Test.YtcllfjjhijkakaaGreatDoorSM1
import Derived.Test.YtcllfjjhijkakaaGreatDoorSM2
import Derived.Test.YtcllfjjhijkakaaGreatDoorSM3
import Derived.Test.YtcllfjjhijkakaaGreatDoorSM4
import Derived.Test.YtcllfjjhijkakaaGreatDoorSM5
import Derived.Test.YtcllfjjhijkakaaGreatDoorSM6
set_option linter.all false
namespace Go.Proofs.YtcllfjjhijkakaaGreatDoor
open Go.Ai
noncomputable def smT : List Ent := [sm0, sm1, sm2, sm3, sm4, sm5, sm6, sm7, sm8, sm9, sm10, sm11, sm12, sm13, sm14, sm15, sm16, sm17, sm18, sm19, sm20, sm21, sm22, sm23, sm24, sm25, sm26, sm27, sm28, sm29, sm30, sm31, sm32, sm33, sm34, sm35, sm36, sm37, sm38, sm39, sm40, sm41, sm42, sm43, sm44, sm45, sm46, sm47, sm48, sm49, sm50, sm51]
set_option maxRecDepth 1000000
theorem smT_holds : ∀ e ∈ smT, e.holds EE :=
 List.forall_mem_cons.2 ⟨sm0_h,
 List.forall_mem_cons.2 ⟨sm1_h,
 List.forall_mem_cons.2 ⟨sm2_h,
 List.forall_mem_cons.2 ⟨sm3_h,
 List.forall_mem_cons.2 ⟨sm4_h,
 List.forall_mem_cons.2 ⟨sm5_h,
 List.forall_mem_cons.2 ⟨sm6_h,
 List.forall_mem_cons.2 ⟨sm7_h,
 List.forall_mem_cons.2 ⟨sm8_h,
 List.forall_mem_cons.2 ⟨sm9_h,
 List.forall_mem_cons.2 ⟨sm10_h,
 List.forall_mem_cons.2 ⟨sm11_h,
 List.forall_mem_cons.2 ⟨sm12_h,
 List.forall_mem_cons.2 ⟨sm13_h,
 List.forall_mem_cons.2 ⟨sm14_h,
 List.forall_mem_cons.2 ⟨sm15_h,
 List.forall_mem_cons.2 ⟨sm16_h,
 List.forall_mem_cons.2 ⟨sm17_h,
 List.forall_mem_cons.2 ⟨sm18_h,
 List.forall_mem_cons.2 ⟨sm19_h,
 List.forall_mem_cons.2 ⟨sm20_h,
 List.forall_mem_cons.2 ⟨sm21_h,
 List.forall_mem_cons.2 ⟨sm22_h,
 List.forall_mem_cons.2 ⟨sm23_h,
 List.forall_mem_cons.2 ⟨sm24_h,
 List.forall_mem_cons.2 ⟨sm25_h,
 List.forall_mem_cons.2 ⟨sm26_h,
 List.forall_mem_cons.2 ⟨sm27_h,
 List.forall_mem_cons.2 ⟨sm28_h,
 List.forall_mem_cons.2 ⟨sm29_h,
 List.forall_mem_cons.2 ⟨sm30_h,
 List.forall_mem_cons.2 ⟨sm31_h,
 List.forall_mem_cons.2 ⟨sm32_h,
 List.forall_mem_cons.2 ⟨sm33_h,
 List.forall_mem_cons.2 ⟨sm34_h,
 List.forall_mem_cons.2 ⟨sm35_h,
 List.forall_mem_cons.2 ⟨sm36_h,
 List.forall_mem_cons.2 ⟨sm37_h,
 List.forall_mem_cons.2 ⟨sm38_h,
 List.forall_mem_cons.2 ⟨sm39_h,
 List.forall_mem_cons.2 ⟨sm40_h,
 List.forall_mem_cons.2 ⟨sm41_h,
 List.forall_mem_cons.2 ⟨sm42_h,
 List.forall_mem_cons.2 ⟨sm43_h,
 List.forall_mem_cons.2 ⟨sm44_h,
 List.forall_mem_cons.2 ⟨sm45_h,
 List.forall_mem_cons.2 ⟨sm46_h,
 List.forall_mem_cons.2 ⟨sm47_h,
 List.forall_mem_cons.2 ⟨sm48_h,
 List.forall_mem_cons.2 ⟨sm49_h,
 List.forall_mem_cons.2 ⟨sm50_h,
 List.forall_mem_cons.2 ⟨sm51_h,
 (fun _ h => by cases h)⟩⟩⟩⟩⟩⟩⟩⟩⟩⟩⟩⟩⟩⟩⟩⟩⟩⟩⟩⟩⟩⟩⟩⟩⟩⟩⟩⟩⟩⟩⟩⟩⟩⟩⟩⟩⟩⟩⟩⟩⟩⟩⟩⟩⟩⟩⟩⟩⟩⟩⟩⟩
end Go.Proofs.YtcllfjjhijkakaaGreatDoor
namespace Go.Proofs.YtcllfjjhijkakaaGreatDoor
open Go.Ai
set_option maxRecDepth 1000000
noncomputable def sw0 : Ent :=
 ⟨51, [.agg ⟨[.slice (some ⟨3, 0, none⟩) 2 2, iP 4, .slice none 0 0, .slice (some ⟨4, 0, none⟩) 3 3, iP 1]⟩], 8,
  gC ++ [hb0,
  hb1,
  hb8,
  hb2,
  hb3],
  [.map [⟨.agg ⟨[iP 0, iP 0]⟩, .slice (some ⟨9, 0, none⟩) 1 18446744073709551616, 0⟩, ⟨.agg ⟨[iP 0, iP 1]⟩, .slice (some ⟨10, 0, none⟩) 2 18446744073709551616, 1⟩, ⟨.agg ⟨[iP 1, iP 0]⟩, .slice (some ⟨11, 0, none⟩) 1 18446744073709551616, 2⟩, ⟨.agg ⟨[iP 2, iP 0]⟩, .slice (some ⟨12, 0, none⟩) 1 18446744073709551616, 3⟩] 4, .cells true 2 [iP 0], .cells true 2 [iP 0, iP 1], .cells true 2 [iP 1], .cells true 2 [iP 1]],
  .agg ⟨[.slice (some ⟨3, 0, none⟩) 2 2, iP 4, .slice none 0 0, .slice (some ⟨4, 0, none⟩) 3 3, iP 1, .map (some 8), .func (.func 75) ⟨[]⟩ ⟨[]⟩]⟩⟩
theorem sw0_ok : sw0.okS EE.G = true := by kernel_rfl
theorem sw0_run : evT EE smT 1000000000 (.call sw0.f sw0.args) sw0.heap (keptK sw0) = some (.bool true) := by kernel_rfl
theorem sw0_h : sw0.holds EE := ent_run envOk smT_holds _ _ sw0_ok sw0_run
noncomputable def sw3 : Ent :=
 ⟨47, [.agg ⟨[.slice (some ⟨3, 0, none⟩) 2 2, iP 4, .slice none 0 0, .slice (some ⟨4, 0, none⟩) 3 3, iP 1, .map (some 8), .func (.func 75) ⟨[]⟩ ⟨[]⟩]⟩], 13,
  gC ++ [hb0,
  hb1,
  hb8,
  hb2,
  hb3,
  hb9,
  (9, .cells true 2 [iP 0]),
  (10, .cells true 2 [iP 0, iP 1]),
  hb4,
  (12, .cells true 2 [iP 1])],
  [.cells true 2 [iP 1]],
  .slice (some ⟨13, 0, none⟩) 1 18446744073709551616⟩
theorem sw3_ok : sw3.okS EE.G = true := by kernel_rfl
theorem sw3_run : evT EE smT 1000000000 (.call sw3.f sw3.args) sw3.heap (keptK sw3) = some (.bool true) := by kernel_rfl
theorem sw3_h : sw3.holds EE := ent_run envOk smT_holds _ _ sw3_ok sw3_run
noncomputable def sw1 : Ent :=
 ⟨51, [.agg ⟨[.slice (some ⟨3, 0, none⟩) 2 2, iP 4, .slice none 0 0, .slice (some ⟨4, 0, none⟩) 3 3, iP 1]⟩], 8,
  gC ++ [hb0,
  hb1,
  hb5,
  hb2,
  hb3],
  [.map [⟨.agg ⟨[iP 0, iP 1]⟩, .slice (some ⟨9, 0, none⟩) 2 18446744073709551616, 0⟩, ⟨.agg ⟨[iP 1, iP 0]⟩, .slice (some ⟨10, 0, none⟩) 1 18446744073709551616, 1⟩, ⟨.agg ⟨[iP 2, iP 0]⟩, .slice (some ⟨11, 0, none⟩) 1 18446744073709551616, 2⟩] 3, .cells true 2 [iP 0, iP 1], .cells true 2 [iP 1], .cells true 2 [iP 1]],
  .agg ⟨[.slice (some ⟨3, 0, none⟩) 2 2, iP 4, .slice none 0 0, .slice (some ⟨4, 0, none⟩) 3 3, iP 1, .map (some 8), .func (.func 75) ⟨[]⟩ ⟨[]⟩]⟩⟩
theorem sw1_ok : sw1.okS EE.G = true := by kernel_rfl
theorem sw1_run : evT EE smT 1000000000 (.call sw1.f sw1.args) sw1.heap (keptK sw1) = some (.bool true) := by kernel_rfl
theorem sw1_h : sw1.holds EE := ent_run envOk smT_holds _ _ sw1_ok sw1_run
noncomputable def sw4 : Ent :=
 ⟨47, [.agg ⟨[.slice (some ⟨3, 0, none⟩) 2 2, iP 4, .slice none 0 0, .slice (some ⟨4, 0, none⟩) 3 3, iP 1, .map (some 8), .func (.func 75) ⟨[]⟩ ⟨[]⟩]⟩], 12,
  gC ++ [hb0,
  hb1,
  hb5,
  hb2,
  hb3,
  hb6,
  hb7,
  (10, .cells true 2 [iP 1]),
  hb4],
  [.cells true 2 [iP 0, iP 1]],
  .slice (some ⟨12, 0, none⟩) 2 18446744073709551616⟩
theorem sw4_ok : sw4.okS EE.G = true := by kernel_rfl
theorem sw4_run : evT EE smT 1000000000 (.call sw4.f sw4.args) sw4.heap (keptK sw4) = some (.bool true) := by kernel_rfl
theorem sw4_h : sw4.holds EE := ent_run envOk smT_holds _ _ sw4_ok sw4_run
noncomputable def sw2 : Ent :=
 ⟨51, [.agg ⟨[.slice (some ⟨3, 0, none⟩) 2 2, iP 4, .slice none 0 0, .slice (some ⟨4, 0, none⟩) 3 3, iP 2]⟩], 8,
  gC ++ [hb0,
  hb1,
  hb8,
  hb2,
  hb3],
  [.map [⟨.agg ⟨[iP 0, iP 0]⟩, .slice (some ⟨9, 0, none⟩) 1 18446744073709551616, 0⟩, ⟨.agg ⟨[iP 0, iP 1]⟩, .slice (some ⟨10, 0, none⟩) 2 18446744073709551616, 1⟩, ⟨.agg ⟨[iP 1, iP 0]⟩, .slice (some ⟨11, 0, none⟩) 1 18446744073709551616, 2⟩, ⟨.agg ⟨[iP 2, iP 0]⟩, .slice (some ⟨12, 0, none⟩) 1 18446744073709551616, 3⟩] 4, .cells true 2 [iP 0], .cells true 2 [iP 0, iP 1], .cells true 2 [iP 1], .cells true 2 [iP 1]],
  .agg ⟨[.slice (some ⟨3, 0, none⟩) 2 2, iP 4, .slice none 0 0, .slice (some ⟨4, 0, none⟩) 3 3, iP 2, .map (some 8), .func (.func 75) ⟨[]⟩ ⟨[]⟩]⟩⟩
theorem sw2_ok : sw2.okS EE.G = true := by kernel_rfl
theorem sw2_run : evT EE smT 1000000000 (.call sw2.f sw2.args) sw2.heap (keptK sw2) = some (.bool true) := by kernel_rfl
theorem sw2_h : sw2.holds EE := ent_run envOk smT_holds _ _ sw2_ok sw2_run
noncomputable def sw5 : Ent :=
 ⟨47, [.agg ⟨[.slice (some ⟨3, 0, none⟩) 2 2, iP 4, .slice none 0 0, .slice (some ⟨4, 0, none⟩) 3 3, iP 1, .map (some 8), .func (.func 99) ⟨[]⟩ ⟨[.pointer (some ⟨12, 0, none⟩)]⟩]⟩], 13,
  gC ++ [hb0,
  hb1,
  hb5,
  hb2,
  hb3,
  hb6,
  hb7,
  (10, .cells true 2 [iP 1]),
  hb4,
  (12, .cells true 0 [iP 0])],
  [.cells true 2 [iP 0, iP 1]],
  .slice (some ⟨13, 0, none⟩) 2 18446744073709551616⟩
theorem sw5_ok : sw5.okS EE.G = true := by kernel_rfl
theorem sw5_run : evT EE smT 1000000000 (.call sw5.f sw5.args) sw5.heap (keptK sw5) = some (.bool true) := by kernel_rfl
theorem sw5_h : sw5.holds EE := ent_run envOk smT_holds _ _ sw5_ok sw5_run
noncomputable def sw6 : Ent :=
 ⟨47, [.agg ⟨[.slice (some ⟨3, 0, none⟩) 2 2, iP 4, .slice none 0 0, .slice (some ⟨4, 0, none⟩) 3 3, iP 1, .map (some 8), .func (.func 99) ⟨[]⟩ ⟨[.pointer (some ⟨12, 0, none⟩)]⟩]⟩], 13,
  gC ++ [hb0,
  hb1,
  hb5,
  hb2,
  hb3,
  hb6,
  hb7,
  (10, .cells true 2 [iP 1]),
  hb4,
  (12, .cells true 0 [iP 1])],
  [.cells true 2 [iP 0, iP 1, iP 2]],
  .slice (some ⟨13, 0, none⟩) 3 18446744073709551616⟩
theorem sw6_ok : sw6.okS EE.G = true := by kernel_rfl
theorem sw6_run : evT EE smT 1000000000 (.call sw6.f sw6.args) sw6.heap (keptK sw6) = some (.bool true) := by kernel_rfl
theorem sw6_h : sw6.holds EE := ent_run envOk smT_holds _ _ sw6_ok sw6_run
end Go.Proofs.YtcllfjjhijkakaaGreatDoor
namespace Go.Proofs.YtcllfjjhijkakaaGreatDoor
open Go.Ai
noncomputable def swT : List Ent := [sw0, sw1, sw2, sw3, sw4, sw5, sw6]
set_option maxRecDepth 1000000
theorem swT_holds : ∀ e ∈ swT, e.holds EE :=
 List.forall_mem_cons.2 ⟨sw0_h,
 List.forall_mem_cons.2 ⟨sw1_h,
 List.forall_mem_cons.2 ⟨sw2_h,
 List.forall_mem_cons.2 ⟨sw3_h,
 List.forall_mem_cons.2 ⟨sw4_h,
 List.forall_mem_cons.2 ⟨sw5_h,
 List.forall_mem_cons.2 ⟨sw6_h,
 (fun _ h => by cases h)⟩⟩⟩⟩⟩⟩⟩
noncomputable def sxaT : List Ent := swT ++ smT
theorem sxaT_holds : ∀ e ∈ sxaT, e.holds EE := fun e he => (List.mem_append.1 he).elim (swT_holds e) (smT_holds e)
end Go.Proofs.YtcllfjjhijkakaaGreatDoor
namespace Go.Proofs.YtcllfjjhijkakaaGreatDoor
open Go.Ai
set_option maxRecDepth 1000000
noncomputable def sn0 : Ent :=
 ⟨50, [.agg ⟨[.slice (some ⟨3, 0, none⟩) 2 2, iP 4, .slice none 0 0, .slice (some ⟨4, 0, none⟩) 3 3, iP 1, .map (some 8), .func (.func 75) ⟨[]⟩ ⟨[]⟩]⟩], 12,
  gC ++ [hb0,
  hb1,
  hb5,
  hb2,
  hb3,
  hb6,
  hb7,
  (10, .cells true 2 [iP 1]),
  hb4],
  [.cells true 2 [iP 1]],
  .slice (some ⟨12, 0, none⟩) 1 18446744073709551616⟩
theorem sn0_ok : sn0.okS EE.G = true := by kernel_rfl
theorem sn0_run : evT EE sxaT 1000000000 (.call sn0.f sn0.args) sn0.heap (keptK sn0) = some (.bool true) := by kernel_rfl
theorem sn0_h : sn0.holds EE := ent_run envOk sxaT_holds _ _ sn0_ok sn0_run
end Go.Proofs.YtcllfjjhijkakaaGreatDoor
namespace Go.Proofs.YtcllfjjhijkakaaGreatDoor
open Go.Ai
noncomputable def snT : List Ent := [sn0]
set_option maxRecDepth 1000000
theorem snT_holds : ∀ e ∈ snT, e.holds EE :=
 List.forall_mem_cons.2 ⟨sn0_h,
 (fun _ h => by cases h)⟩
noncomputable def sxbT : List Ent := snT ++ sxaT
theorem sxbT_holds : ∀ e ∈ sxbT, e.holds EE := fun e he => (List.mem_append.1 he).elim (snT_holds e) (sxaT_holds e)
end Go.Proofs.YtcllfjjhijkakaaGreatDoor
namespace Go.Proofs.YtcllfjjhijkakaaGreatDoor
open Go.Ai
set_option maxRecDepth 1000000
noncomputable def sx0 : Ent :=
 ⟨10, [.agg ⟨[.slice (some ⟨3, 0, none⟩) 2 2, iP 4, .slice none 0 0, .slice (some ⟨4, 0, none⟩) 3 3, iP 1]⟩, iP 0, iP 1], 8,
  gC ++ [hb0,
  hb1,
  hb8,
  hb2,
  hb3],
  [.cells true 2 [iP 0, iP 1]],
  .tuple ⟨[.slice (some ⟨8, 0, none⟩) 2 18446744073709551616, iP 0]⟩⟩
theorem sx0_ok : sx0.okS EE.G = true := by kernel_rfl
theorem sx0_run : evT EE sxbT 1000000000 (.call sx0.f sx0.args) sx0.heap (keptK sx0) = some (.bool true) := by kernel_rfl
theorem sx0_h : sx0.holds EE := ent_run envOk sxbT_holds _ _ sx0_ok sx0_run
noncomputable def sx2 : Ent :=
 ⟨8, [.agg ⟨[.slice (some ⟨3, 0, none⟩) 2 2, iP 4, .slice none 0 0, .slice (some ⟨4, 0, none⟩) 3 3, iP 1]⟩, .slice (some ⟨8, 0, none⟩) 2 2, .slice (some ⟨9, 0, none⟩) 3 3], 10,
  gC ++ [hb0,
  hb1,
  hb8,
  hb2,
  hb3,
  (8, .cells true 0 [iP 0, iP 2]),
  (9, .cells true 0 [iP 0, iP 0, iP 0, iP 0, iP 1, iP 1, iP 2, iP 0, iP 1])],
  [],
  .tuple ⟨[.bool true, iP 0]⟩⟩
theorem sx2_ok : sx2.okS EE.G = true := by kernel_rfl
theorem sx2_run : evT EE sxbT 1000000000 (.call sx2.f sx2.args) sx2.heap (keptK sx2) = some (.bool true) := by kernel_rfl
theorem sx2_h : sx2.holds EE := ent_run envOk sxbT_holds _ _ sx2_ok sx2_run
noncomputable def sx4 : Ent :=
 ⟨23, [.agg ⟨[.slice (some ⟨3, 0, none⟩) 2 2, iP 4, .slice none 0 0, .slice (some ⟨4, 0, none⟩) 3 3, iP 1]⟩], 8,
  gC ++ [hb0,
  hb1,
  hb8,
  hb2,
  hb3],
  [.cells true 2 [iP 1]],
  .tuple ⟨[.slice (some ⟨8, 0, none⟩) 1 18446744073709551616, iP 0]⟩⟩
theorem sx4_ok : sx4.okS EE.G = true := by kernel_rfl
theorem sx4_run : evT EE sxbT 1000000000 (.call sx4.f sx4.args) sx4.heap (keptK sx4) = some (.bool true) := by kernel_rfl
theorem sx4_h : sx4.holds EE := ent_run envOk sxbT_holds _ _ sx4_ok sx4_run
noncomputable def sx6 : Ent :=
 ⟨26, [.agg ⟨[.slice (some ⟨3, 0, none⟩) 2 2, iP 4, .slice none 0 0, .slice (some ⟨4, 0, none⟩) 3 3, iP 2]⟩], 8,
  gC ++ [hb0,
  hb1,
  hb8,
  hb2,
  hb3],
  [.cells true 4 [iP 0, iP 0, iP 0, iP 0, iP 1, iP 1, iP 1, iP 0, iP 1, iP 2, iP 0, iP 1]],
  .tuple ⟨[.slice (some ⟨8, 0, none⟩) 4 18446744073709551616, iP 0]⟩⟩
theorem sx6_ok : sx6.okS EE.G = true := by kernel_rfl
theorem sx6_run : evT EE sxbT 1000000000 (.call sx6.f sx6.args) sx6.heap (keptK sx6) = some (.bool true) := by kernel_rfl
theorem sx6_h : sx6.holds EE := ent_run envOk sxbT_holds _ _ sx6_ok sx6_run
noncomputable def sx8 : Ent :=
 ⟨18, [.agg ⟨[.slice (some ⟨3, 0, none⟩) 2 2, iP 4, .slice none 0 0, .slice (some ⟨4, 0, none⟩) 3 3, iP 1]⟩, iP 0], 8,
  gC ++ [hb0,
  hb1,
  hb8,
  hb2,
  hb3],
  [],
  .tuple ⟨[iP 0, iP 4]⟩⟩
theorem sx8_ok : sx8.okS EE.G = true := by kernel_rfl
theorem sx8_run : evT EE sxbT 1000000000 (.call sx8.f sx8.args) sx8.heap (keptK sx8) = some (.bool true) := by kernel_rfl
theorem sx8_h : sx8.holds EE := ent_run envOk sxbT_holds _ _ sx8_ok sx8_run
noncomputable def sx1 : Ent :=
 ⟨18, [.agg ⟨[.slice (some ⟨3, 0, none⟩) 2 2, iP 4, .slice none 0 0, .slice (some ⟨4, 0, none⟩) 3 3, iP 1]⟩, iP 0], 8,
  gC ++ [hb0,
  hb1,
  hb5,
  hb2,
  hb3],
  [],
  .tuple ⟨[iP 0, iP 0]⟩⟩
theorem sx1_ok : sx1.okS EE.G = true := by kernel_rfl
theorem sx1_run : evT EE sxbT 1000000000 (.call sx1.f sx1.args) sx1.heap (keptK sx1) = some (.bool true) := by kernel_rfl
theorem sx1_h : sx1.holds EE := ent_run envOk sxbT_holds _ _ sx1_ok sx1_run
noncomputable def sx3 : Ent :=
 ⟨21, [.agg ⟨[.slice (some ⟨3, 0, none⟩) 2 2, iP 4, .slice none 0 0, .slice (some ⟨4, 0, none⟩) 3 3, iP 2]⟩], 8,
  gC ++ [hb0,
  hb1,
  hb8,
  hb2,
  hb3],
  [],
  .tuple ⟨[iP 1, iP 0]⟩⟩
theorem sx3_ok : sx3.okS EE.G = true := by kernel_rfl
theorem sx3_run : evT EE sxbT 1000000000 (.call sx3.f sx3.args) sx3.heap (keptK sx3) = some (.bool true) := by kernel_rfl
theorem sx3_h : sx3.holds EE := ent_run envOk sxbT_holds _ _ sx3_ok sx3_run
noncomputable def sx5 : Ent :=
 ⟨25, [.agg ⟨[.slice (some ⟨3, 0, none⟩) 2 2, iP 4, .slice none 0 0, .slice (some ⟨4, 0, none⟩) 3 3, iP 1]⟩], 8,
  gC ++ [hb0,
  hb1,
  hb8,
  hb2,
  hb3],
  [.cells true 4 [iP 0, iP 0, iP 0, iP 0, iP 1, iP 1, iP 2, iP 0, iP 1]],
  .tuple ⟨[.slice (some ⟨8, 0, none⟩) 3 18446744073709551616, iP 0]⟩⟩
theorem sx5_ok : sx5.okS EE.G = true := by kernel_rfl
theorem sx5_run : evT EE sxbT 1000000000 (.call sx5.f sx5.args) sx5.heap (keptK sx5) = some (.bool true) := by kernel_rfl
theorem sx5_h : sx5.holds EE := ent_run envOk sxbT_holds _ _ sx5_ok sx5_run
noncomputable def sx7 : Ent :=
 ⟨27, [.agg ⟨[.slice (some ⟨3, 0, none⟩) 2 2, iP 4, .slice none 0 0, .slice (some ⟨4, 0, none⟩) 3 3, iP 1]⟩], 8,
  gC ++ [hb0,
  hb1,
  hb5,
  hb2,
  hb3],
  [.cells true 2 [iP 1]],
  .tuple ⟨[.slice (some ⟨8, 0, none⟩) 1 18446744073709551616, iP 0]⟩⟩
theorem sx7_ok : sx7.okS EE.G = true := by kernel_rfl
theorem sx7_run : evT EE sxbT 1000000000 (.call sx7.f sx7.args) sx7.heap (keptK sx7) = some (.bool true) := by kernel_rfl
theorem sx7_h : sx7.holds EE := ent_run envOk sxbT_holds _ _ sx7_ok sx7_run
noncomputable def sx9 : Ent :=
 ⟨13, [.agg ⟨[.slice (some ⟨3, 0, none⟩) 2 2, iP 4, .slice none 0 0, .slice (some ⟨4, 0, none⟩) 3 3, iP 1]⟩], 8,
  gC ++ [hb0,
  hb1,
  hb8,
  hb2,
  hb3],
  [],
  iP 0⟩
theorem sx9_ok : sx9.okS EE.G = true := by kernel_rfl
theorem sx9_run : evT EE sxbT 1000000000 (.call sx9.f sx9.args) sx9.heap (keptK sx9) = some (.bool true) := by kernel_rfl
theorem sx9_h : sx9.holds EE := ent_run envOk sxbT_holds _ _ sx9_ok sx9_run
noncomputable def sx10 : Ent :=
 ⟨13, [.agg ⟨[.slice (some ⟨3, 0, none⟩) 2 2, iP 4, .slice none 0 0, .slice (some ⟨4, 0, none⟩) 3 3, iP 1]⟩], 8,
  gC ++ [hb0,
  hb1,
  hb5,
  hb2,
  hb3],
  [],
  iP 0⟩
theorem sx10_ok : sx10.okS EE.G = true := by kernel_rfl
theorem sx10_run : evT EE sxbT 1000000000 (.call sx10.f sx10.args) sx10.heap (keptK sx10) = some (.bool true) := by kernel_rfl
theorem sx10_h : sx10.holds EE := ent_run envOk sxbT_holds _ _ sx10_ok sx10_run
noncomputable def sx11 : Ent :=
 ⟨13, [.agg ⟨[.slice (some ⟨3, 0, none⟩) 2 2, iP 4, .slice none 0 0, .slice (some ⟨4, 0, none⟩) 3 3, iP 2]⟩], 8,
  gC ++ [hb0,
  hb1,
  hb8,
  hb2,
  hb3],
  [],
  iP 0⟩
theorem sx11_ok : sx11.okS EE.G = true := by kernel_rfl
theorem sx11_run : evT EE sxbT 1000000000 (.call sx11.f sx11.args) sx11.heap (keptK sx11) = some (.bool true) := by kernel_rfl
theorem sx11_h : sx11.holds EE := ent_run envOk sxbT_holds _ _ sx11_ok sx11_run
end Go.Proofs.YtcllfjjhijkakaaGreatDoor
namespace Go.Proofs.YtcllfjjhijkakaaGreatDoor
open Go.Ai
noncomputable def sxT : List Ent := [sx0, sx1, sx2, sx3, sx4, sx5, sx6, sx7, sx8, sx9, sx10, sx11]
set_option maxRecDepth 1000000
theorem sxT_holds : ∀ e ∈ sxT, e.holds EE :=
 List.forall_mem_cons.2 ⟨sx0_h,
 List.forall_mem_cons.2 ⟨sx1_h,
 List.forall_mem_cons.2 ⟨sx2_h,
 List.forall_mem_cons.2 ⟨sx3_h,
 List.forall_mem_cons.2 ⟨sx4_h,
 List.forall_mem_cons.2 ⟨sx5_h,
 List.forall_mem_cons.2 ⟨sx6_h,
 List.forall_mem_cons.2 ⟨sx7_h,
 List.forall_mem_cons.2 ⟨sx8_h,
 List.forall_mem_cons.2 ⟨sx9_h,
 List.forall_mem_cons.2 ⟨sx10_h,
 List.forall_mem_cons.2 ⟨sx11_h,
 (fun _ h => by cases h)⟩⟩⟩⟩⟩⟩⟩⟩⟩⟩⟩⟩
end Go.Proofs.YtcllfjjhijkakaaGreatDoor
namespace Go.Proofs.YtcllfjjhijkakaaGreatDoor
open Go.Ai
set_option maxRecDepth 1000000
noncomputable def seTop : Ent := ⟨5, [], 3, gC, [], .bool true⟩
theorem seTop_ok : seTop.okS EE.G = true := by kernel_rfl
theorem seTop_run : evT EE sxT 1000000000 (.call seTop.f seTop.args) seTop.heap (keptK seTop) = some (.bool true) := by kernel_rfl
theorem seTop_h : seTop.holds EE := ent_run envOk sxT_holds _ _ seTop_ok seTop_run
end Go.Proofs.YtcllfjjhijkakaaGreatDoor
