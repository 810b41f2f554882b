/- Known calls, part 6: what single calls hand back, at small heaps, by the kernel's own run of the evaluator. No conditions. -/
import Derived.Test.YtgffhndedhbjlaaGreatDoorZA
set_option linter.all false
namespace Go.Proofs.YtgffhndedhbjlaaGreatDoor
open Go.Ai
set_option maxRecDepth 1000000
-- decani/strain.Wrong, 11945 steps
noncomputable def zf6 : Ent :=
  ⟨18, [.agg ⟨[.slice (some ⟨2, 0, none⟩) 2 2, .int .i64 (.ofNat 2), .int .i64 (.ofNat 3), .int .i64 (.ofNat 4), .int .i64 (.ofNat 4), .int .i64 (.ofNat 3), .int .i64 (.ofNat 4), .slice (some ⟨3, 0, none⟩) 4 4, .slice none 0 0, .slice (some ⟨4, 0, none⟩) 2 2]⟩], 5,
   [(0, .cells false 0 [.int .i64 (.ofNat 5), .int .i64 (.ofNat 3)]),
    (1, .cells false 0 [.int .i64 (.negSucc 0), .int .i64 (.negSucc 0), .int .i64 (.negSucc 0)]),
    (2, .cells true 0 [.int .i64 (.ofNat 10), .int .i64 (.ofNat 11), .int .i64 (.ofNat 8), .int .i64 (.ofNat 8)]),
    (3, .cells true 0 [.int .i64 (.ofNat 1), .int .i64 (.ofNat 1), .int .i64 (.ofNat 1), .int .i64 (.ofNat 0), .int .i64 (.ofNat 1), .int .i64 (.ofNat 1), .int .i64 (.ofNat 0), .int .i64 (.ofNat 1), .int .i64 (.ofNat 1), .int .i64 (.ofNat 2), .int .i64 (.ofNat 0), .int .i64 (.ofNat 1)]),
    (4, .cells true 0 [.int .i64 (.ofNat 0), .int .i64 (.ofNat 0), .int .i64 (.ofNat 3), .int .i64 (.ofNat 0), .int .i64 (.ofNat 1), .int .i64 (.ofNat 0), .int .i64 (.ofNat 2), .int .i64 (.ofNat 0)])],
   [(2, [.int .i64 (.ofNat 0)])],
   .tuple ⟨[.slice (some ⟨5, 0, none⟩) 1 18446744073709551616, .int .i64 (.ofNat 0)]⟩⟩
theorem zf6_ok : zf6.okS EE.G = true := by kernel_rfl
theorem zf6_run : evT EE zaT 1000000000 (.call zf6.f zf6.args) zf6.heap (keptK zf6) = some (.bool true) := by kernel_rfl
theorem zf6_h : zf6.holds EE := ent_run envOk zaT_holds _ _ zf6_ok zf6_run
-- decani/strain.Left, 7851 steps
noncomputable def zf15 : Ent :=
  ⟨10, [.agg ⟨[.slice (some ⟨2, 0, none⟩) 2 2, .int .i64 (.ofNat 2), .int .i64 (.ofNat 3), .int .i64 (.ofNat 4), .int .i64 (.ofNat 4), .int .i64 (.ofNat 3), .int .i64 (.ofNat 4), .slice (some ⟨3, 0, none⟩) 4 4, .slice none 0 0, .slice (some ⟨4, 0, none⟩) 1 1]⟩, .int .i64 (.ofNat 0), .int .i64 (.ofNat 1)], 5,
   [(0, .cells false 0 [.int .i64 (.ofNat 5), .int .i64 (.ofNat 3)]),
    (1, .cells false 0 [.int .i64 (.negSucc 0), .int .i64 (.negSucc 0), .int .i64 (.negSucc 0)]),
    (2, .cells true 0 [.int .i64 (.ofNat 10), .int .i64 (.ofNat 11), .int .i64 (.ofNat 8), .int .i64 (.ofNat 8)]),
    (3, .cells true 0 [.int .i64 (.ofNat 1), .int .i64 (.ofNat 1), .int .i64 (.ofNat 1), .int .i64 (.ofNat 0), .int .i64 (.ofNat 1), .int .i64 (.ofNat 1), .int .i64 (.ofNat 0), .int .i64 (.ofNat 1), .int .i64 (.ofNat 1), .int .i64 (.ofNat 2), .int .i64 (.ofNat 0), .int .i64 (.ofNat 1)]),
    (4, .cells true 0 [.int .i64 (.ofNat 0), .int .i64 (.ofNat 0), .int .i64 (.ofNat 3), .int .i64 (.ofNat 0)])],
   [],
   .tuple ⟨[.agg ⟨[.int .i64 (.ofNat 2), .int .i64 (.ofNat 3)]⟩, .int .i64 (.ofNat 0)]⟩⟩
theorem zf15_ok : zf15.okS EE.G = true := by kernel_rfl
theorem zf15_run : evT EE zaT 1000000000 (.call zf15.f zf15.args) zf15.heap (keptK zf15) = some (.bool true) := by kernel_rfl
theorem zf15_h : zf15.holds EE := ent_run envOk zaT_holds _ _ zf15_ok zf15_run
-- decani/strain.Left, 5456 steps
noncomputable def zf22 : Ent :=
  ⟨10, [.agg ⟨[.slice (some ⟨2, 0, none⟩) 2 2, .int .i64 (.ofNat 2), .int .i64 (.ofNat 3), .int .i64 (.ofNat 4), .int .i64 (.ofNat 4), .int .i64 (.ofNat 3), .int .i64 (.ofNat 4), .slice (some ⟨3, 0, none⟩) 4 4, .slice none 0 0, .slice (some ⟨4, 0, none⟩) 2 2]⟩, .int .i64 (.ofNat 0), .int .i64 (.ofNat 0)], 5,
   [(0, .cells false 0 [.int .i64 (.ofNat 5), .int .i64 (.ofNat 3)]),
    (1, .cells false 0 [.int .i64 (.negSucc 0), .int .i64 (.negSucc 0), .int .i64 (.negSucc 0)]),
    (2, .cells true 0 [.int .i64 (.ofNat 10), .int .i64 (.ofNat 11), .int .i64 (.ofNat 8), .int .i64 (.ofNat 8)]),
    (3, .cells true 0 [.int .i64 (.ofNat 1), .int .i64 (.ofNat 1), .int .i64 (.ofNat 1), .int .i64 (.ofNat 0), .int .i64 (.ofNat 1), .int .i64 (.ofNat 1), .int .i64 (.ofNat 0), .int .i64 (.ofNat 1), .int .i64 (.ofNat 1), .int .i64 (.ofNat 2), .int .i64 (.ofNat 0), .int .i64 (.ofNat 1)]),
    (4, .cells true 0 [.int .i64 (.ofNat 0), .int .i64 (.ofNat 0), .int .i64 (.ofNat 3), .int .i64 (.ofNat 0), .int .i64 (.ofNat 1), .int .i64 (.ofNat 0), .int .i64 (.ofNat 2), .int .i64 (.ofNat 0)])],
   [],
   .tuple ⟨[.agg ⟨[.int .i64 (.ofNat 0), .int .i64 (.ofNat 0)]⟩, .int .i64 (.ofNat 42)]⟩⟩
theorem zf22_ok : zf22.okS EE.G = true := by kernel_rfl
theorem zf22_run : evT EE zaT 1000000000 (.call zf22.f zf22.args) zf22.heap (keptK zf22) = some (.bool true) := by kernel_rfl
theorem zf22_h : zf22.holds EE := ent_run envOk zaT_holds _ _ zf22_ok zf22_run
-- decani/strain.Safe, 3645 steps
noncomputable def zf29 : Ent :=
  ⟨15, [.agg ⟨[.slice (some ⟨2, 0, none⟩) 2 2, .int .i64 (.ofNat 2), .int .i64 (.ofNat 3), .int .i64 (.ofNat 4), .int .i64 (.ofNat 4), .int .i64 (.ofNat 3), .int .i64 (.ofNat 4), .slice (some ⟨3, 0, none⟩) 4 4, .slice none 0 0, .slice none 0 0]⟩, .slice (some ⟨4, 0, none⟩) 2 18446744073709551616], 5,
   [(0, .cells false 0 [.int .i64 (.ofNat 5), .int .i64 (.ofNat 3)]),
    (1, .cells false 0 [.int .i64 (.negSucc 0), .int .i64 (.negSucc 0), .int .i64 (.negSucc 0)]),
    (2, .cells true 0 [.int .i64 (.ofNat 10), .int .i64 (.ofNat 11), .int .i64 (.ofNat 8), .int .i64 (.ofNat 8)]),
    (3, .cells true 0 [.int .i64 (.ofNat 1), .int .i64 (.ofNat 1), .int .i64 (.ofNat 1), .int .i64 (.ofNat 0), .int .i64 (.ofNat 1), .int .i64 (.ofNat 1), .int .i64 (.ofNat 0), .int .i64 (.ofNat 1), .int .i64 (.ofNat 1), .int .i64 (.ofNat 2), .int .i64 (.ofNat 0), .int .i64 (.ofNat 1)]),
    (4, .cells true 3 [.int .i64 (.ofNat 1), .int .i64 (.ofNat 1), .int .i64 (.ofNat 0), .int .i64 (.ofNat 0)])],
   [],
   .tuple ⟨[.bool false, .int .i64 (.ofNat 41)]⟩⟩
theorem zf29_ok : zf29.okS EE.G = true := by kernel_rfl
theorem zf29_run : evT EE zaT 1000000000 (.call zf29.f zf29.args) zf29.heap (keptK zf29) = some (.bool true) := by kernel_rfl
theorem zf29_h : zf29.holds EE := ent_run envOk zaT_holds _ _ zf29_ok zf29_run
-- decani/strain.Fits, 1742 steps
noncomputable def zf39 : Ent :=
  ⟨17, [.agg ⟨[.slice (some ⟨2, 0, none⟩) 2 2, .int .i64 (.ofNat 2), .int .i64 (.ofNat 3), .int .i64 (.ofNat 4), .int .i64 (.ofNat 4), .int .i64 (.ofNat 3), .int .i64 (.ofNat 4), .slice (some ⟨3, 0, none⟩) 4 4, .slice none 0 0, .slice (some ⟨4, 0, none⟩) 1 1]⟩, .agg ⟨[.int .i64 (.negSucc 0), .int .i64 (.ofNat 0), .int .i64 (.ofNat 0), .int .i64 (.ofNat 0)]⟩], 5,
   [(0, .cells false 0 [.int .i64 (.ofNat 5), .int .i64 (.ofNat 3)]),
    (1, .cells false 0 [.int .i64 (.negSucc 0), .int .i64 (.negSucc 0), .int .i64 (.negSucc 0)]),
    (2, .cells true 0 [.int .i64 (.ofNat 10), .int .i64 (.ofNat 11), .int .i64 (.ofNat 8), .int .i64 (.ofNat 8)]),
    (3, .cells true 0 [.int .i64 (.ofNat 1), .int .i64 (.ofNat 1), .int .i64 (.ofNat 1), .int .i64 (.ofNat 0), .int .i64 (.ofNat 1), .int .i64 (.ofNat 1), .int .i64 (.ofNat 0), .int .i64 (.ofNat 1), .int .i64 (.ofNat 1), .int .i64 (.ofNat 2), .int .i64 (.ofNat 0), .int .i64 (.ofNat 1)]),
    (4, .cells true 0 [.int .i64 (.ofNat 0), .int .i64 (.ofNat 0), .int .i64 (.ofNat 0), .int .i64 (.ofNat 4)])],
   [],
   .tuple ⟨[.bool false, .int .i64 (.ofNat 40)]⟩⟩
theorem zf39_ok : zf39.okS EE.G = true := by kernel_rfl
theorem zf39_run : evT EE zaT 1000000000 (.call zf39.f zf39.args) zf39.heap (keptK zf39) = some (.bool true) := by kernel_rfl
theorem zf39_h : zf39.holds EE := ent_run envOk zaT_holds _ _ zf39_ok zf39_run
-- decani/strain.Beyond, 1709 steps
noncomputable def zf46 : Ent :=
  ⟨12, [.agg ⟨[.slice (some ⟨2, 0, none⟩) 2 2, .int .i64 (.ofNat 2), .int .i64 (.ofNat 3), .int .i64 (.ofNat 4), .int .i64 (.ofNat 4), .int .i64 (.ofNat 3), .int .i64 (.ofNat 4), .slice (some ⟨3, 0, none⟩) 4 4, .slice none 0 0, .slice (some ⟨4, 0, none⟩) 1 1]⟩, .int .i64 (.negSucc 0)], 5,
   [(0, .cells false 0 [.int .i64 (.ofNat 5), .int .i64 (.ofNat 3)]),
    (1, .cells false 0 [.int .i64 (.negSucc 0), .int .i64 (.negSucc 0), .int .i64 (.negSucc 0)]),
    (2, .cells true 0 [.int .i64 (.ofNat 10), .int .i64 (.ofNat 11), .int .i64 (.ofNat 8), .int .i64 (.ofNat 8)]),
    (3, .cells true 0 [.int .i64 (.ofNat 1), .int .i64 (.ofNat 1), .int .i64 (.ofNat 1), .int .i64 (.ofNat 0), .int .i64 (.ofNat 1), .int .i64 (.ofNat 1), .int .i64 (.ofNat 0), .int .i64 (.ofNat 1), .int .i64 (.ofNat 1), .int .i64 (.ofNat 2), .int .i64 (.ofNat 0), .int .i64 (.ofNat 1)]),
    (4, .cells true 0 [.int .i64 (.ofNat 0), .int .i64 (.ofNat 0), .int .i64 (.ofNat 0), .int .i64 (.ofNat 4)])],
   [],
   .tuple ⟨[.int .i64 (.ofNat 0), .int .i64 (.ofNat 40)]⟩⟩
theorem zf46_ok : zf46.okS EE.G = true := by kernel_rfl
theorem zf46_run : evT EE zaT 1000000000 (.call zf46.f zf46.args) zf46.heap (keptK zf46) = some (.bool true) := by kernel_rfl
theorem zf46_h : zf46.holds EE := ent_run envOk zaT_holds _ _ zf46_ok zf46_run
-- decani/strain.Costs, 1689 steps
noncomputable def zf53 : Ent :=
  ⟨11, [.agg ⟨[.slice (some ⟨2, 0, none⟩) 2 2, .int .i64 (.ofNat 2), .int .i64 (.ofNat 3), .int .i64 (.ofNat 4), .int .i64 (.ofNat 4), .int .i64 (.ofNat 3), .int .i64 (.ofNat 4), .slice (some ⟨3, 0, none⟩) 4 4, .slice none 0 0, .slice (some ⟨4, 0, none⟩) 1 1]⟩, .int .i64 (.negSucc 0)], 5,
   [(0, .cells false 0 [.int .i64 (.ofNat 5), .int .i64 (.ofNat 3)]),
    (1, .cells false 0 [.int .i64 (.negSucc 0), .int .i64 (.negSucc 0), .int .i64 (.negSucc 0)]),
    (2, .cells true 0 [.int .i64 (.ofNat 10), .int .i64 (.ofNat 11), .int .i64 (.ofNat 8), .int .i64 (.ofNat 8)]),
    (3, .cells true 0 [.int .i64 (.ofNat 1), .int .i64 (.ofNat 1), .int .i64 (.ofNat 1), .int .i64 (.ofNat 0), .int .i64 (.ofNat 1), .int .i64 (.ofNat 1), .int .i64 (.ofNat 0), .int .i64 (.ofNat 1), .int .i64 (.ofNat 1), .int .i64 (.ofNat 2), .int .i64 (.ofNat 0), .int .i64 (.ofNat 1)]),
    (4, .cells true 0 [.int .i64 (.ofNat 0), .int .i64 (.ofNat 4), .int .i64 (.ofNat 0), .int .i64 (.ofNat 0)])],
   [],
   .tuple ⟨[.agg ⟨[.int .i64 (.ofNat 0), .int .i64 (.ofNat 0)]⟩, .int .i64 (.ofNat 40)]⟩⟩
theorem zf53_ok : zf53.okS EE.G = true := by kernel_rfl
theorem zf53_run : evT EE zaT 1000000000 (.call zf53.f zf53.args) zf53.heap (keptK zf53) = some (.bool true) := by kernel_rfl
theorem zf53_h : zf53.holds EE := ent_run envOk zaT_holds _ _ zf53_ok zf53_run
-- decani/strain.Costs, 1654 steps
noncomputable def zf62 : Ent :=
  ⟨11, [.agg ⟨[.slice (some ⟨2, 0, none⟩) 2 2, .int .i64 (.ofNat 2), .int .i64 (.ofNat 3), .int .i64 (.ofNat 4), .int .i64 (.ofNat 4), .int .i64 (.ofNat 3), .int .i64 (.ofNat 4), .slice (some ⟨3, 0, none⟩) 4 4, .slice none 0 0, .slice (some ⟨4, 0, none⟩) 1 1]⟩, .int .i64 (.negSucc 0)], 5,
   [(0, .cells false 0 [.int .i64 (.ofNat 5), .int .i64 (.ofNat 3)]),
    (1, .cells false 0 [.int .i64 (.negSucc 0), .int .i64 (.negSucc 0), .int .i64 (.negSucc 0)]),
    (2, .cells true 0 [.int .i64 (.ofNat 10), .int .i64 (.ofNat 11), .int .i64 (.ofNat 8), .int .i64 (.ofNat 8)]),
    (3, .cells true 0 [.int .i64 (.ofNat 1), .int .i64 (.ofNat 1), .int .i64 (.ofNat 1), .int .i64 (.ofNat 0), .int .i64 (.ofNat 1), .int .i64 (.ofNat 1), .int .i64 (.ofNat 0), .int .i64 (.ofNat 1), .int .i64 (.ofNat 1), .int .i64 (.ofNat 2), .int .i64 (.ofNat 0), .int .i64 (.ofNat 1)]),
    (4, .cells true 0 [.int .i64 (.ofNat 2), .int .i64 (.ofNat 0), .int .i64 (.ofNat 0), .int .i64 (.ofNat 0)])],
   [],
   .tuple ⟨[.agg ⟨[.int .i64 (.ofNat 0), .int .i64 (.ofNat 0)]⟩, .int .i64 (.ofNat 40)]⟩⟩
theorem zf62_ok : zf62.okS EE.G = true := by kernel_rfl
theorem zf62_run : evT EE zaT 1000000000 (.call zf62.f zf62.args) zf62.heap (keptK zf62) = some (.bool true) := by kernel_rfl
theorem zf62_h : zf62.holds EE := ent_run envOk zaT_holds _ _ zf62_ok zf62_run
-- decani/strain.First, 1637 steps
noncomputable def zf70 : Ent :=
  ⟨13, [.agg ⟨[.slice (some ⟨2, 0, none⟩) 2 2, .int .i64 (.ofNat 2), .int .i64 (.ofNat 3), .int .i64 (.ofNat 4), .int .i64 (.ofNat 4), .int .i64 (.ofNat 3), .int .i64 (.ofNat 4), .slice (some ⟨3, 0, none⟩) 4 4, .slice none 0 0, .slice (some ⟨4, 0, none⟩) 1 1]⟩], 5,
   [(0, .cells false 0 [.int .i64 (.ofNat 5), .int .i64 (.ofNat 3)]),
    (1, .cells false 0 [.int .i64 (.negSucc 0), .int .i64 (.negSucc 0), .int .i64 (.negSucc 0)]),
    (2, .cells true 0 [.int .i64 (.ofNat 10), .int .i64 (.ofNat 11), .int .i64 (.ofNat 8), .int .i64 (.ofNat 8)]),
    (3, .cells true 0 [.int .i64 (.ofNat 1), .int .i64 (.ofNat 1), .int .i64 (.ofNat 1), .int .i64 (.ofNat 0), .int .i64 (.ofNat 1), .int .i64 (.ofNat 1), .int .i64 (.ofNat 0), .int .i64 (.ofNat 1), .int .i64 (.ofNat 1), .int .i64 (.ofNat 2), .int .i64 (.ofNat 0), .int .i64 (.ofNat 1)]),
    (4, .cells true 0 [.int .i64 (.ofNat 0), .int .i64 (.ofNat 4), .int .i64 (.ofNat 0), .int .i64 (.ofNat 0)])],
   [],
   .tuple ⟨[.int .i64 (.ofNat 0), .int .i64 (.ofNat 0), .int .i64 (.ofNat 40)]⟩⟩
theorem zf70_ok : zf70.okS EE.G = true := by kernel_rfl
theorem zf70_run : evT EE zaT 1000000000 (.call zf70.f zf70.args) zf70.heap (keptK zf70) = some (.bool true) := by kernel_rfl
theorem zf70_h : zf70.holds EE := ent_run envOk zaT_holds _ _ zf70_ok zf70_run
-- decani/strain.Check, 1611 steps
noncomputable def zf78 : Ent :=
  ⟨19, [.agg ⟨[.slice (some ⟨2, 0, none⟩) 2 2, .int .i64 (.ofNat 2), .int .i64 (.ofNat 3), .int .i64 (.ofNat 4), .int .i64 (.ofNat 4), .int .i64 (.ofNat 3), .int .i64 (.ofNat 4), .slice (some ⟨3, 0, none⟩) 4 4, .slice none 0 0, .slice (some ⟨4, 0, none⟩) 1 1]⟩], 5,
   [(0, .cells false 0 [.int .i64 (.ofNat 5), .int .i64 (.ofNat 3)]),
    (1, .cells false 0 [.int .i64 (.negSucc 0), .int .i64 (.negSucc 0), .int .i64 (.negSucc 0)]),
    (2, .cells true 0 [.int .i64 (.ofNat 10), .int .i64 (.ofNat 11), .int .i64 (.ofNat 8), .int .i64 (.ofNat 8)]),
    (3, .cells true 0 [.int .i64 (.ofNat 1), .int .i64 (.ofNat 1), .int .i64 (.ofNat 1), .int .i64 (.ofNat 0), .int .i64 (.ofNat 1), .int .i64 (.ofNat 1), .int .i64 (.ofNat 0), .int .i64 (.ofNat 1), .int .i64 (.ofNat 1), .int .i64 (.ofNat 2), .int .i64 (.ofNat 0), .int .i64 (.ofNat 1)]),
    (4, .cells true 0 [.int .i64 (.ofNat 0), .int .i64 (.ofNat 0), .int .i64 (.ofNat 0), .int .i64 (.ofNat 4)])],
   [],
   .int .i64 (.ofNat 40)⟩
theorem zf78_ok : zf78.okS EE.G = true := by kernel_rfl
theorem zf78_run : evT EE zaT 1000000000 (.call zf78.f zf78.args) zf78.heap (keptK zf78) = some (.bool true) := by kernel_rfl
theorem zf78_h : zf78.holds EE := ent_run envOk zaT_holds _ _ zf78_ok zf78_run
-- decani/strain.Safe, 1599 steps
noncomputable def zf85 : Ent :=
  ⟨15, [.agg ⟨[.slice (some ⟨2, 0, none⟩) 2 2, .int .i64 (.ofNat 2), .int .i64 (.ofNat 3), .int .i64 (.ofNat 4), .int .i64 (.ofNat 4), .int .i64 (.ofNat 3), .int .i64 (.ofNat 4), .slice (some ⟨3, 0, none⟩) 4 4, .slice none 0 0, .slice (some ⟨4, 0, none⟩) 1 1]⟩, .slice (some ⟨5, 0, none⟩) 1 18446744073709551616], 6,
   [(0, .cells false 0 [.int .i64 (.ofNat 5), .int .i64 (.ofNat 3)]),
    (1, .cells false 0 [.int .i64 (.negSucc 0), .int .i64 (.negSucc 0), .int .i64 (.negSucc 0)]),
    (2, .cells true 0 [.int .i64 (.ofNat 10), .int .i64 (.ofNat 11), .int .i64 (.ofNat 8), .int .i64 (.ofNat 8)]),
    (3, .cells true 0 [.int .i64 (.ofNat 1), .int .i64 (.ofNat 1), .int .i64 (.ofNat 1), .int .i64 (.ofNat 0), .int .i64 (.ofNat 1), .int .i64 (.ofNat 1), .int .i64 (.ofNat 0), .int .i64 (.ofNat 1), .int .i64 (.ofNat 1), .int .i64 (.ofNat 2), .int .i64 (.ofNat 0), .int .i64 (.ofNat 1)]),
    (4, .cells true 0 [.int .i64 (.ofNat 2), .int .i64 (.ofNat 0), .int .i64 (.ofNat 0), .int .i64 (.ofNat 0)]),
    (5, .cells true 3 [.int .i64 (.negSucc 0), .int .i64 (.ofNat 0)])],
   [],
   .tuple ⟨[.bool false, .int .i64 (.ofNat 40)]⟩⟩
theorem zf85_ok : zf85.okS EE.G = true := by kernel_rfl
theorem zf85_run : evT EE zaT 1000000000 (.call zf85.f zf85.args) zf85.heap (keptK zf85) = some (.bool true) := by kernel_rfl
theorem zf85_h : zf85.holds EE := ent_run envOk zaT_holds _ _ zf85_ok zf85_run
-- decani/strain.First, 1537 steps
noncomputable def zf94 : Ent :=
  ⟨13, [.agg ⟨[.slice (some ⟨2, 0, none⟩) 2 2, .int .i64 (.ofNat 2), .int .i64 (.ofNat 3), .int .i64 (.ofNat 4), .int .i64 (.ofNat 4), .int .i64 (.ofNat 3), .int .i64 (.ofNat 4), .slice (some ⟨3, 0, none⟩) 4 4, .slice (some ⟨4, 0, none⟩) 1 18446744073709551616, .slice none 0 0]⟩], 5,
   [(0, .cells false 0 [.int .i64 (.ofNat 5), .int .i64 (.ofNat 3)]),
    (1, .cells false 0 [.int .i64 (.negSucc 0), .int .i64 (.negSucc 0), .int .i64 (.negSucc 0)]),
    (2, .cells true 0 [.int .i64 (.ofNat 10), .int .i64 (.ofNat 11), .int .i64 (.ofNat 8), .int .i64 (.ofNat 8)]),
    (3, .cells true 0 [.int .i64 (.ofNat 1), .int .i64 (.ofNat 1), .int .i64 (.ofNat 1), .int .i64 (.ofNat 0), .int .i64 (.ofNat 1), .int .i64 (.ofNat 1), .int .i64 (.ofNat 0), .int .i64 (.ofNat 1), .int .i64 (.ofNat 1), .int .i64 (.ofNat 2), .int .i64 (.ofNat 0), .int .i64 (.ofNat 1)]),
    (4, .cells true 3 [.int .i64 (.ofNat 4), .int .i64 (.ofNat 0)])],
   [],
   .tuple ⟨[.int .i64 (.ofNat 0), .int .i64 (.ofNat 0), .int .i64 (.ofNat 40)]⟩⟩
theorem zf94_ok : zf94.okS EE.G = true := by kernel_rfl
theorem zf94_run : evT EE zaT 1000000000 (.call zf94.f zf94.args) zf94.heap (keptK zf94) = some (.bool true) := by kernel_rfl
theorem zf94_h : zf94.holds EE := ent_run envOk zaT_holds _ _ zf94_ok zf94_run
-- decani/strain.Fits, 1189 steps
noncomputable def zf102 : Ent :=
  ⟨17, [.agg ⟨[.slice (some ⟨2, 0, none⟩) 2 2, .int .i64 (.ofNat 2), .int .i64 (.ofNat 3), .int .i64 (.ofNat 4), .int .i64 (.ofNat 4), .int .i64 (.ofNat 3), .int .i64 (.ofNat 4), .slice (some ⟨3, 0, none⟩) 4 4, .slice none 0 0, .slice none 0 0]⟩, .agg ⟨[.int .i64 (.negSucc 0), .int .i64 (.ofNat 0), .int .i64 (.ofNat 0), .int .i64 (.ofNat 0)]⟩], 4,
   [(0, .cells false 0 [.int .i64 (.ofNat 5), .int .i64 (.ofNat 3)]),
    (1, .cells false 0 [.int .i64 (.negSucc 0), .int .i64 (.negSucc 0), .int .i64 (.negSucc 0)]),
    (2, .cells true 0 [.int .i64 (.ofNat 10), .int .i64 (.ofNat 11), .int .i64 (.ofNat 8), .int .i64 (.ofNat 8)]),
    (3, .cells true 0 [.int .i64 (.ofNat 1), .int .i64 (.ofNat 1), .int .i64 (.ofNat 1), .int .i64 (.ofNat 0), .int .i64 (.ofNat 1), .int .i64 (.ofNat 4), .int .i64 (.ofNat 0), .int .i64 (.ofNat 1), .int .i64 (.ofNat 1), .int .i64 (.ofNat 2), .int .i64 (.ofNat 0), .int .i64 (.ofNat 1)])],
   [],
   .tuple ⟨[.bool false, .int .i64 (.ofNat 40)]⟩⟩
theorem zf102_ok : zf102.okS EE.G = true := by kernel_rfl
theorem zf102_run : evT EE zaT 1000000000 (.call zf102.f zf102.args) zf102.heap (keptK zf102) = some (.bool true) := by kernel_rfl
theorem zf102_h : zf102.holds EE := ent_run envOk zaT_holds _ _ zf102_ok zf102_run
-- decani/strain.Safe, 1117 steps
noncomputable def zf108 : Ent :=
  ⟨15, [.agg ⟨[.slice (some ⟨2, 0, none⟩) 2 2, .int .i64 (.ofNat 2), .int .i64 (.ofNat 3), .int .i64 (.ofNat 4), .int .i64 (.ofNat 4), .int .i64 (.ofNat 3), .int .i64 (.ofNat 4), .slice (some ⟨3, 0, none⟩) 4 4, .slice none 0 0, .slice none 0 0]⟩, .slice (some ⟨4, 0, none⟩) 1 18446744073709551616], 5,
   [(0, .cells false 0 [.int .i64 (.ofNat 5), .int .i64 (.ofNat 3)]),
    (1, .cells false 0 [.int .i64 (.negSucc 0), .int .i64 (.negSucc 0), .int .i64 (.negSucc 0)]),
    (2, .cells true 0 [.int .i64 (.ofNat 10), .int .i64 (.ofNat 11), .int .i64 (.ofNat 8), .int .i64 (.ofNat 8)]),
    (3, .cells true 0 [.int .i64 (.ofNat 1), .int .i64 (.ofNat 1), .int .i64 (.ofNat 1), .int .i64 (.ofNat 0), .int .i64 (.ofNat 1), .int .i64 (.ofNat 4), .int .i64 (.ofNat 0), .int .i64 (.ofNat 1), .int .i64 (.ofNat 1), .int .i64 (.ofNat 2), .int .i64 (.ofNat 0), .int .i64 (.ofNat 1)]),
    (4, .cells true 3 [.int .i64 (.negSucc 0), .int .i64 (.ofNat 0)])],
   [],
   .tuple ⟨[.bool false, .int .i64 (.ofNat 40)]⟩⟩
theorem zf108_ok : zf108.okS EE.G = true := by kernel_rfl
theorem zf108_run : evT EE zaT 1000000000 (.call zf108.f zf108.args) zf108.heap (keptK zf108) = some (.bool true) := by kernel_rfl
theorem zf108_h : zf108.holds EE := ent_run envOk zaT_holds _ _ zf108_ok zf108_run
-- decani/strain.Safe, 958 steps
noncomputable def zf118 : Ent :=
  ⟨15, [.agg ⟨[.slice (some ⟨2, 0, none⟩) 2 2, .int .i64 (.ofNat 2), .int .i64 (.ofNat 3), .int .i64 (.ofNat 4), .int .i64 (.ofNat 4), .int .i64 (.ofNat 3), .int .i64 (.ofNat 4), .slice (some ⟨3, 0, none⟩) 4 4, .slice none 0 0, .slice none 0 0]⟩, .slice (some ⟨4, 0, none⟩) 1 18446744073709551616], 5,
   [(0, .cells false 0 [.int .i64 (.ofNat 5), .int .i64 (.ofNat 3)]),
    (1, .cells false 0 [.int .i64 (.negSucc 0), .int .i64 (.negSucc 0), .int .i64 (.negSucc 0)]),
    (2, .cells true 0 [.int .i64 (.ofNat 10), .int .i64 (.ofNat 11), .int .i64 (.ofNat 8), .int .i64 (.ofNat 8)]),
    (3, .cells true 0 [.int .i64 (.ofNat 3), .int .i64 (.ofNat 1), .int .i64 (.ofNat 1), .int .i64 (.ofNat 0), .int .i64 (.ofNat 1), .int .i64 (.ofNat 1), .int .i64 (.ofNat 0), .int .i64 (.ofNat 1), .int .i64 (.ofNat 1), .int .i64 (.ofNat 2), .int .i64 (.ofNat 0), .int .i64 (.ofNat 1)]),
    (4, .cells true 3 [.int .i64 (.negSucc 0), .int .i64 (.ofNat 0)])],
   [],
   .tuple ⟨[.bool false, .int .i64 (.ofNat 40)]⟩⟩
theorem zf118_ok : zf118.okS EE.G = true := by kernel_rfl
theorem zf118_run : evT EE zaT 1000000000 (.call zf118.f zf118.args) zf118.heap (keptK zf118) = some (.bool true) := by kernel_rfl
theorem zf118_h : zf118.holds EE := ent_run envOk zaT_holds _ _ zf118_ok zf118_run
-- decani/strain.Plan, 817 steps
noncomputable def zf127 : Ent :=
  ⟨16, [.agg ⟨[.slice (some ⟨2, 0, none⟩) 2 2, .int .i64 (.ofNat 2), .int .i64 (.ofNat 3), .int .i64 (.ofNat 4), .int .i64 (.ofNat 4), .int .i64 (.ofNat 7), .int .i64 (.ofNat 7), .slice (some ⟨3, 0, none⟩) 4 4, .slice none 0 0, .slice none 0 0]⟩], 4,
   [(0, .cells false 0 [.int .i64 (.ofNat 5), .int .i64 (.ofNat 3)]),
    (1, .cells false 0 [.int .i64 (.negSucc 0), .int .i64 (.negSucc 0), .int .i64 (.negSucc 0)]),
    (2, .cells true 0 [.int .i64 (.ofNat 10), .int .i64 (.ofNat 11), .int .i64 (.ofNat 8), .int .i64 (.ofNat 8)]),
    (3, .cells true 0 [.int .i64 (.ofNat 1), .int .i64 (.ofNat 1), .int .i64 (.ofNat 1), .int .i64 (.ofNat 0), .int .i64 (.ofNat 1), .int .i64 (.ofNat 1), .int .i64 (.ofNat 0), .int .i64 (.ofNat 1), .int .i64 (.ofNat 1), .int .i64 (.ofNat 2), .int .i64 (.ofNat 0), .int .i64 (.ofNat 1)])],
   [],
   .tuple ⟨[.slice none 0 0, .int .i64 (.ofNat 40)]⟩⟩
theorem zf127_ok : zf127.okS EE.G = true := by kernel_rfl
theorem zf127_run : evT EE zaT 1000000000 (.call zf127.f zf127.args) zf127.heap (keptK zf127) = some (.bool true) := by kernel_rfl
theorem zf127_h : zf127.holds EE := ent_run envOk zaT_holds _ _ zf127_ok zf127_run
-- decani/strain.Plan, 603 steps
noncomputable def zf137 : Ent :=
  ⟨16, [.agg ⟨[.slice (some ⟨2, 0, none⟩) 2 2, .int .i64 (.ofNat 2), .int .i64 (.ofNat 4), .int .i64 (.ofNat 4), .int .i64 (.ofNat 4), .int .i64 (.ofNat 3), .int .i64 (.ofNat 4), .slice (some ⟨3, 0, none⟩) 4 4, .slice none 0 0, .slice none 0 0]⟩], 4,
   [(0, .cells false 0 [.int .i64 (.ofNat 5), .int .i64 (.ofNat 3)]),
    (1, .cells false 0 [.int .i64 (.negSucc 0), .int .i64 (.negSucc 0), .int .i64 (.negSucc 0)]),
    (2, .cells true 0 [.int .i64 (.ofNat 10), .int .i64 (.ofNat 11), .int .i64 (.ofNat 8), .int .i64 (.ofNat 8)]),
    (3, .cells true 0 [.int .i64 (.ofNat 1), .int .i64 (.ofNat 1), .int .i64 (.ofNat 1), .int .i64 (.ofNat 0), .int .i64 (.ofNat 1), .int .i64 (.ofNat 1), .int .i64 (.ofNat 0), .int .i64 (.ofNat 1), .int .i64 (.ofNat 1), .int .i64 (.ofNat 2), .int .i64 (.ofNat 0), .int .i64 (.ofNat 1)])],
   [],
   .tuple ⟨[.slice none 0 0, .int .i64 (.ofNat 40)]⟩⟩
theorem zf137_ok : zf137.okS EE.G = true := by kernel_rfl
theorem zf137_run : evT EE zaT 1000000000 (.call zf137.f zf137.args) zf137.heap (keptK zf137) = some (.bool true) := by kernel_rfl
theorem zf137_h : zf137.holds EE := ent_run envOk zaT_holds _ _ zf137_ok zf137_run
-- decani/strain.Beyond, 479 steps
noncomputable def zf145 : Ent :=
  ⟨12, [.agg ⟨[.slice (some ⟨2, 0, none⟩) 2 2, .int .i64 (.ofNat 2), .int .i64 (.ofNat 3), .int .i64 (.ofNat 4), .int .i64 (.ofNat 4), .int .i64 (.ofNat 3), .int .i64 (.ofNat 4), .slice (some ⟨3, 0, none⟩) 4 4, .slice none 0 0, .slice none 0 0]⟩, .int .i64 (.negSucc 0)], 4,
   [(0, .cells false 0 [.int .i64 (.ofNat 5), .int .i64 (.ofNat 3)]),
    (1, .cells false 0 [.int .i64 (.negSucc 0), .int .i64 (.negSucc 0), .int .i64 (.negSucc 0)]),
    (2, .cells true 0 [.int .i64 (.ofNat 10), .int .i64 (.ofNat 11), .int .i64 (.ofNat 31), .int .i64 (.ofNat 31)]),
    (3, .cells true 0 [.int .i64 (.ofNat 1), .int .i64 (.ofNat 1), .int .i64 (.ofNat 1), .int .i64 (.ofNat 0), .int .i64 (.ofNat 1), .int .i64 (.ofNat 1), .int .i64 (.ofNat 0), .int .i64 (.ofNat 1), .int .i64 (.ofNat 1), .int .i64 (.ofNat 2), .int .i64 (.ofNat 0), .int .i64 (.ofNat 1)])],
   [],
   .tuple ⟨[.int .i64 (.ofNat 0), .int .i64 (.ofNat 40)]⟩⟩
theorem zf145_ok : zf145.okS EE.G = true := by kernel_rfl
theorem zf145_run : evT EE zaT 1000000000 (.call zf145.f zf145.args) zf145.heap (keptK zf145) = some (.bool true) := by kernel_rfl
theorem zf145_h : zf145.holds EE := ent_run envOk zaT_holds _ _ zf145_ok zf145_run
-- decani/strain.Safe, 333 steps
noncomputable def zf158 : Ent :=
  ⟨15, [.agg ⟨[.slice (some ⟨2, 0, none⟩) 2 2, .int .i64 (.ofNat 2), .int .i64 (.ofNat 3), .int .i64 (.ofNat 4), .int .i64 (.ofNat 4), .int .i64 (.ofNat 3), .int .i64 (.ofNat 4), .slice (some ⟨3, 0, none⟩) 4 4, .slice none 0 0, .slice none 0 0]⟩, .slice (some ⟨4, 0, none⟩) 1 18446744073709551616], 5,
   [(0, .cells false 0 [.int .i64 (.ofNat 5), .int .i64 (.ofNat 3)]),
    (1, .cells false 0 [.int .i64 (.negSucc 0), .int .i64 (.negSucc 0), .int .i64 (.negSucc 0)]),
    (2, .cells true 0 [.int .i64 (.ofNat 10), .int .i64 (.ofNat 13), .int .i64 (.ofNat 8), .int .i64 (.ofNat 8)]),
    (3, .cells true 0 [.int .i64 (.ofNat 1), .int .i64 (.ofNat 1), .int .i64 (.ofNat 1), .int .i64 (.ofNat 0), .int .i64 (.ofNat 1), .int .i64 (.ofNat 1), .int .i64 (.ofNat 0), .int .i64 (.ofNat 1), .int .i64 (.ofNat 1), .int .i64 (.ofNat 2), .int .i64 (.ofNat 0), .int .i64 (.ofNat 1)]),
    (4, .cells true 3 [.int .i64 (.negSucc 0), .int .i64 (.ofNat 0)])],
   [],
   .tuple ⟨[.bool false, .int .i64 (.ofNat 40)]⟩⟩
theorem zf158_ok : zf158.okS EE.G = true := by kernel_rfl
theorem zf158_run : evT EE zaT 1000000000 (.call zf158.f zf158.args) zf158.heap (keptK zf158) = some (.bool true) := by kernel_rfl
theorem zf158_h : zf158.holds EE := ent_run envOk zaT_holds _ _ zf158_ok zf158_run
-- decani/strain.Costs, 212 steps
noncomputable def zf165 : Ent :=
  ⟨11, [.agg ⟨[.slice (some ⟨2, 0, none⟩) 2 2, .int .i64 (.ofNat 2), .int .i64 (.ofNat 3), .int .i64 (.ofNat 4), .int .i64 (.ofNat 4), .int .i64 (.ofNat 3), .int .i64 (.ofNat 4), .slice (some ⟨3, 0, none⟩) 4 4, .slice none 0 0, .slice (some ⟨4, 0, none⟩) 5 5]⟩, .int .i64 (.negSucc 0)], 5,
   [(0, .cells false 0 [.int .i64 (.ofNat 5), .int .i64 (.ofNat 3)]),
    (1, .cells false 0 [.int .i64 (.negSucc 0), .int .i64 (.negSucc 0), .int .i64 (.negSucc 0)]),
    (2, .cells true 0 [.int .i64 (.ofNat 10), .int .i64 (.ofNat 11), .int .i64 (.ofNat 8), .int .i64 (.ofNat 8)]),
    (3, .cells true 0 [.int .i64 (.ofNat 1), .int .i64 (.ofNat 1), .int .i64 (.ofNat 1), .int .i64 (.ofNat 0), .int .i64 (.ofNat 1), .int .i64 (.ofNat 1), .int .i64 (.ofNat 0), .int .i64 (.ofNat 1), .int .i64 (.ofNat 1), .int .i64 (.ofNat 2), .int .i64 (.ofNat 0), .int .i64 (.ofNat 1)]),
    (4, .cells true 0 [.int .i64 (.ofNat 0), .int .i64 (.ofNat 0), .int .i64 (.ofNat 0), .int .i64 (.ofNat 0), .int .i64 (.ofNat 0), .int .i64 (.ofNat 0), .int .i64 (.ofNat 0), .int .i64 (.ofNat 0), .int .i64 (.ofNat 0), .int .i64 (.ofNat 0), .int .i64 (.ofNat 0), .int .i64 (.ofNat 0), .int .i64 (.ofNat 0), .int .i64 (.ofNat 0), .int .i64 (.ofNat 0), .int .i64 (.ofNat 0), .int .i64 (.ofNat 0), .int .i64 (.ofNat 0), .int .i64 (.ofNat 0), .int .i64 (.ofNat 0)])],
   [],
   .tuple ⟨[.agg ⟨[.int .i64 (.ofNat 0), .int .i64 (.ofNat 0)]⟩, .int .i64 (.ofNat 40)]⟩⟩
theorem zf165_ok : zf165.okS EE.G = true := by kernel_rfl
theorem zf165_run : evT EE zaT 1000000000 (.call zf165.f zf165.args) zf165.heap (keptK zf165) = some (.bool true) := by kernel_rfl
theorem zf165_h : zf165.holds EE := ent_run envOk zaT_holds _ _ zf165_ok zf165_run
-- decani/strain.Beyond, 162 steps
noncomputable def zf177 : Ent :=
  ⟨12, [.agg ⟨[.slice (some ⟨2, 0, none⟩) 4 18446744073709551616, .int .i64 (.ofNat 2), .int .i64 (.ofNat 3), .int .i64 (.ofNat 4), .int .i64 (.ofNat 4), .int .i64 (.ofNat 3), .int .i64 (.ofNat 4), .slice (some ⟨3, 0, none⟩) 4 4, .slice none 0 0, .slice none 0 0]⟩, .int .i64 (.negSucc 0)], 4,
   [(0, .cells false 0 [.int .i64 (.ofNat 5), .int .i64 (.ofNat 3)]),
    (1, .cells false 0 [.int .i64 (.negSucc 0), .int .i64 (.negSucc 0), .int .i64 (.negSucc 0)]),
    (2, .cells true 3 [.int .i64 (.ofNat 10), .int .i64 (.ofNat 11), .int .i64 (.ofNat 8), .int .i64 (.ofNat 8), .int .i64 (.ofNat 10), .int .i64 (.ofNat 11), .int .i64 (.ofNat 8), .int .i64 (.ofNat 8)]),
    (3, .cells true 0 [.int .i64 (.ofNat 1), .int .i64 (.ofNat 1), .int .i64 (.ofNat 1), .int .i64 (.ofNat 0), .int .i64 (.ofNat 1), .int .i64 (.ofNat 1), .int .i64 (.ofNat 0), .int .i64 (.ofNat 1), .int .i64 (.ofNat 1), .int .i64 (.ofNat 2), .int .i64 (.ofNat 0), .int .i64 (.ofNat 1)])],
   [],
   .tuple ⟨[.int .i64 (.ofNat 0), .int .i64 (.ofNat 40)]⟩⟩
theorem zf177_ok : zf177.okS EE.G = true := by kernel_rfl
theorem zf177_run : evT EE zaT 1000000000 (.call zf177.f zf177.args) zf177.heap (keptK zf177) = some (.bool true) := by kernel_rfl
theorem zf177_h : zf177.holds EE := ent_run envOk zaT_holds _ _ zf177_ok zf177_run
-- decani/strain.First, 144 steps
noncomputable def zf181 : Ent :=
  ⟨13, [.agg ⟨[.slice (some ⟨2, 0, none⟩) 2 2, .int .i64 (.ofNat 2), .int .i64 (.ofNat 3), .int .i64 (.ofNat 4), .int .i64 (.ofNat 4), .int .i64 (.ofNat 3), .int .i64 (.ofNat 4), .slice (some ⟨3, 0, none⟩) 8 18446744073709551616, .slice none 0 0, .slice none 0 0]⟩], 4,
   [(0, .cells false 0 [.int .i64 (.ofNat 5), .int .i64 (.ofNat 3)]),
    (1, .cells false 0 [.int .i64 (.negSucc 0), .int .i64 (.negSucc 0), .int .i64 (.negSucc 0)]),
    (2, .cells true 0 [.int .i64 (.ofNat 10), .int .i64 (.ofNat 11), .int .i64 (.ofNat 8), .int .i64 (.ofNat 8)]),
    (3, .cells true 4 [.int .i64 (.ofNat 1), .int .i64 (.ofNat 1), .int .i64 (.ofNat 1), .int .i64 (.ofNat 0), .int .i64 (.ofNat 1), .int .i64 (.ofNat 1), .int .i64 (.ofNat 0), .int .i64 (.ofNat 1), .int .i64 (.ofNat 1), .int .i64 (.ofNat 2), .int .i64 (.ofNat 0), .int .i64 (.ofNat 1), .int .i64 (.ofNat 1), .int .i64 (.ofNat 1), .int .i64 (.ofNat 1), .int .i64 (.ofNat 0), .int .i64 (.ofNat 1), .int .i64 (.ofNat 1), .int .i64 (.ofNat 0), .int .i64 (.ofNat 1), .int .i64 (.ofNat 1), .int .i64 (.ofNat 2), .int .i64 (.ofNat 0), .int .i64 (.ofNat 1)])],
   [],
   .tuple ⟨[.int .i64 (.ofNat 0), .int .i64 (.ofNat 0), .int .i64 (.ofNat 40)]⟩⟩
theorem zf181_ok : zf181.okS EE.G = true := by kernel_rfl
theorem zf181_run : evT EE zaT 1000000000 (.call zf181.f zf181.args) zf181.heap (keptK zf181) = some (.bool true) := by kernel_rfl
theorem zf181_h : zf181.holds EE := ent_run envOk zaT_holds _ _ zf181_ok zf181_run
-- decani/strain.Safe, 123 steps
noncomputable def zf191 : Ent :=
  ⟨15, [.agg ⟨[.slice (some ⟨2, 0, none⟩) 4 18446744073709551616, .int .i64 (.ofNat 2), .int .i64 (.ofNat 3), .int .i64 (.ofNat 4), .int .i64 (.ofNat 4), .int .i64 (.ofNat 3), .int .i64 (.ofNat 4), .slice (some ⟨3, 0, none⟩) 4 4, .slice none 0 0, .slice none 0 0]⟩, .slice (some ⟨4, 0, none⟩) 1 18446744073709551616], 5,
   [(0, .cells false 0 [.int .i64 (.ofNat 5), .int .i64 (.ofNat 3)]),
    (1, .cells false 0 [.int .i64 (.negSucc 0), .int .i64 (.negSucc 0), .int .i64 (.negSucc 0)]),
    (2, .cells true 3 [.int .i64 (.ofNat 10), .int .i64 (.ofNat 11), .int .i64 (.ofNat 8), .int .i64 (.ofNat 8), .int .i64 (.ofNat 10), .int .i64 (.ofNat 11), .int .i64 (.ofNat 8), .int .i64 (.ofNat 8)]),
    (3, .cells true 0 [.int .i64 (.ofNat 1), .int .i64 (.ofNat 1), .int .i64 (.ofNat 1), .int .i64 (.ofNat 0), .int .i64 (.ofNat 1), .int .i64 (.ofNat 1), .int .i64 (.ofNat 0), .int .i64 (.ofNat 1), .int .i64 (.ofNat 1), .int .i64 (.ofNat 2), .int .i64 (.ofNat 0), .int .i64 (.ofNat 1)]),
    (4, .cells true 3 [.int .i64 (.negSucc 0), .int .i64 (.ofNat 0)])],
   [],
   .tuple ⟨[.bool false, .int .i64 (.ofNat 40)]⟩⟩
theorem zf191_ok : zf191.okS EE.G = true := by kernel_rfl
theorem zf191_run : evT EE zaT 1000000000 (.call zf191.f zf191.args) zf191.heap (keptK zf191) = some (.bool true) := by kernel_rfl
theorem zf191_h : zf191.holds EE := ent_run envOk zaT_holds _ _ zf191_ok zf191_run
end Go.Proofs.YtgffhndedhbjlaaGreatDoor
