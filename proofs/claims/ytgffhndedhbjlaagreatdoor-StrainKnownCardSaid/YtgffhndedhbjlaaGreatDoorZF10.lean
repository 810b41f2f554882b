/- Known calls, part 10: what single calls hand back, at small heaps, by the kernel's own run of the evaluator. No conditions. -/
import Derived.Test.YtgffhndedhbjlaaGreatDoorZA
set_option linter.all false
namespace Go.Proofs.YtgffhndedhbjlaaGreatDoor
open Go.Ai
set_option maxRecDepth 1000000
-- decani/strain.Beyond, 9004 steps
noncomputable def zf10 : Ent :=
  ⟨12, [.agg ⟨[.slice (some ⟨2, 0, none⟩) 2 2, .int .i64 (.ofNat 2), .int .i64 (.ofNat 3), .int .i64 (.ofNat 4), .int .i64 (.ofNat 4), .int .i64 (.ofNat 3), .int .i64 (.ofNat 4), .slice (some ⟨3, 0, none⟩) 4 4, .slice none 0 0, .slice none 0 0]⟩, .int .i64 (.ofNat 0)], 4,
   [(0, .cells false 0 [.int .i64 (.ofNat 5), .int .i64 (.ofNat 3)]),
    (1, .cells false 0 [.int .i64 (.negSucc 0), .int .i64 (.negSucc 0), .int .i64 (.negSucc 0)]),
    (2, .cells true 0 [.int .i64 (.ofNat 10), .int .i64 (.ofNat 11), .int .i64 (.ofNat 8), .int .i64 (.ofNat 8)]),
    (3, .cells true 0 [.int .i64 (.ofNat 1), .int .i64 (.ofNat 1), .int .i64 (.ofNat 1), .int .i64 (.ofNat 0), .int .i64 (.ofNat 1), .int .i64 (.ofNat 1), .int .i64 (.ofNat 0), .int .i64 (.ofNat 1), .int .i64 (.ofNat 1), .int .i64 (.ofNat 2), .int .i64 (.ofNat 0), .int .i64 (.ofNat 1)])],
   [],
   .tuple ⟨[.int .i64 (.ofNat 3), .int .i64 (.ofNat 0)]⟩⟩
theorem zf10_ok : zf10.okS EE.G = true := by kernel_rfl
theorem zf10_run : evT EE zaT 1000000000 (.call zf10.f zf10.args) zf10.heap (keptK zf10) = some (.bool true) := by kernel_rfl
theorem zf10_h : zf10.holds EE := ent_run envOk zaT_holds _ _ zf10_ok zf10_run
-- decani/strain.Left, 8956 steps
noncomputable def zf11 : Ent :=
  ⟨10, [.agg ⟨[.slice (some ⟨2, 0, none⟩) 2 2, .int .i64 (.ofNat 2), .int .i64 (.ofNat 3), .int .i64 (.ofNat 4), .int .i64 (.ofNat 4), .int .i64 (.ofNat 3), .int .i64 (.ofNat 4), .slice (some ⟨3, 0, none⟩) 4 4, .slice none 0 0, .slice none 0 0]⟩, .int .i64 (.ofNat 0), .int .i64 (.ofNat 1)], 4,
   [(0, .cells false 0 [.int .i64 (.ofNat 5), .int .i64 (.ofNat 3)]),
    (1, .cells false 0 [.int .i64 (.negSucc 0), .int .i64 (.negSucc 0), .int .i64 (.negSucc 0)]),
    (2, .cells true 0 [.int .i64 (.ofNat 10), .int .i64 (.ofNat 11), .int .i64 (.ofNat 8), .int .i64 (.ofNat 8)]),
    (3, .cells true 0 [.int .i64 (.ofNat 1), .int .i64 (.ofNat 1), .int .i64 (.ofNat 1), .int .i64 (.ofNat 0), .int .i64 (.ofNat 1), .int .i64 (.ofNat 1), .int .i64 (.ofNat 0), .int .i64 (.ofNat 1), .int .i64 (.ofNat 1), .int .i64 (.ofNat 2), .int .i64 (.ofNat 0), .int .i64 (.ofNat 1)])],
   [],
   .tuple ⟨[.agg ⟨[.int .i64 (.ofNat 2), .int .i64 (.ofNat 5)]⟩, .int .i64 (.ofNat 0)]⟩⟩
theorem zf11_ok : zf11.okS EE.G = true := by kernel_rfl
theorem zf11_run : evT EE zaT 1000000000 (.call zf11.f zf11.args) zf11.heap (keptK zf11) = some (.bool true) := by kernel_rfl
theorem zf11_h : zf11.holds EE := ent_run envOk zaT_holds _ _ zf11_ok zf11_run
-- decani/strain.Costs, 7132 steps
noncomputable def zf19 : Ent :=
  ⟨11, [.agg ⟨[.slice (some ⟨2, 0, none⟩) 2 2, .int .i64 (.ofNat 2), .int .i64 (.ofNat 3), .int .i64 (.ofNat 4), .int .i64 (.ofNat 4), .int .i64 (.ofNat 3), .int .i64 (.ofNat 4), .slice (some ⟨3, 0, none⟩) 4 4, .slice none 0 0, .slice (some ⟨4, 0, none⟩) 1 1]⟩, .int .i64 (.ofNat 2)], 5,
   [(0, .cells false 0 [.int .i64 (.ofNat 5), .int .i64 (.ofNat 3)]),
    (1, .cells false 0 [.int .i64 (.negSucc 0), .int .i64 (.negSucc 0), .int .i64 (.negSucc 0)]),
    (2, .cells true 0 [.int .i64 (.ofNat 10), .int .i64 (.ofNat 11), .int .i64 (.ofNat 8), .int .i64 (.ofNat 8)]),
    (3, .cells true 0 [.int .i64 (.ofNat 1), .int .i64 (.ofNat 1), .int .i64 (.ofNat 1), .int .i64 (.ofNat 0), .int .i64 (.ofNat 1), .int .i64 (.ofNat 1), .int .i64 (.ofNat 0), .int .i64 (.ofNat 1), .int .i64 (.ofNat 1), .int .i64 (.ofNat 2), .int .i64 (.ofNat 0), .int .i64 (.ofNat 1)]),
    (4, .cells true 0 [.int .i64 (.ofNat 0), .int .i64 (.ofNat 0), .int .i64 (.ofNat 3), .int .i64 (.ofNat 0)])],
   [],
   .tuple ⟨[.agg ⟨[.int .i64 (.ofNat 3), .int .i64 (.ofNat 4)]⟩, .int .i64 (.ofNat 0)]⟩⟩
theorem zf19_ok : zf19.okS EE.G = true := by kernel_rfl
theorem zf19_run : evT EE zaT 1000000000 (.call zf19.f zf19.args) zf19.heap (keptK zf19) = some (.bool true) := by kernel_rfl
theorem zf19_h : zf19.holds EE := ent_run envOk zaT_holds _ _ zf19_ok zf19_run
-- decani/strain.Safe, 3674 steps
noncomputable def zf28 : Ent :=
  ⟨15, [.agg ⟨[.slice (some ⟨2, 0, none⟩) 2 2, .int .i64 (.ofNat 2), .int .i64 (.ofNat 3), .int .i64 (.ofNat 4), .int .i64 (.ofNat 4), .int .i64 (.ofNat 3), .int .i64 (.ofNat 4), .slice (some ⟨3, 0, none⟩) 4 4, .slice none 0 0, .slice none 0 0]⟩, .slice (some ⟨4, 0, none⟩) 2 18446744073709551616], 5,
   [(0, .cells false 0 [.int .i64 (.ofNat 5), .int .i64 (.ofNat 3)]),
    (1, .cells false 0 [.int .i64 (.negSucc 0), .int .i64 (.negSucc 0), .int .i64 (.negSucc 0)]),
    (2, .cells true 0 [.int .i64 (.ofNat 10), .int .i64 (.ofNat 11), .int .i64 (.ofNat 8), .int .i64 (.ofNat 8)]),
    (3, .cells true 0 [.int .i64 (.ofNat 1), .int .i64 (.ofNat 1), .int .i64 (.ofNat 1), .int .i64 (.ofNat 0), .int .i64 (.ofNat 1), .int .i64 (.ofNat 1), .int .i64 (.ofNat 0), .int .i64 (.ofNat 1), .int .i64 (.ofNat 1), .int .i64 (.ofNat 2), .int .i64 (.ofNat 0), .int .i64 (.ofNat 1)]),
    (4, .cells true 3 [.int .i64 (.ofNat 0), .int .i64 (.ofNat 1), .int .i64 (.ofNat 0), .int .i64 (.ofNat 0)])],
   [],
   .tuple ⟨[.bool false, .int .i64 (.ofNat 41)]⟩⟩
theorem zf28_ok : zf28.okS EE.G = true := by kernel_rfl
theorem zf28_run : evT EE zaT 1000000000 (.call zf28.f zf28.args) zf28.heap (keptK zf28) = some (.bool true) := by kernel_rfl
theorem zf28_h : zf28.holds EE := ent_run envOk zaT_holds _ _ zf28_ok zf28_run
-- decani/strain.Beyond, 1926 steps
noncomputable def zf37 : Ent :=
  ⟨12, [.agg ⟨[.slice (some ⟨2, 0, none⟩) 2 2, .int .i64 (.ofNat 2), .int .i64 (.ofNat 3), .int .i64 (.ofNat 4), .int .i64 (.ofNat 4), .int .i64 (.ofNat 3), .int .i64 (.ofNat 4), .slice (some ⟨3, 0, none⟩) 4 4, .slice none 0 0, .slice (some ⟨4, 0, none⟩) 2 2]⟩, .int .i64 (.negSucc 0)], 5,
   [(0, .cells false 0 [.int .i64 (.ofNat 5), .int .i64 (.ofNat 3)]),
    (1, .cells false 0 [.int .i64 (.negSucc 0), .int .i64 (.negSucc 0), .int .i64 (.negSucc 0)]),
    (2, .cells true 0 [.int .i64 (.ofNat 10), .int .i64 (.ofNat 11), .int .i64 (.ofNat 8), .int .i64 (.ofNat 8)]),
    (3, .cells true 0 [.int .i64 (.ofNat 1), .int .i64 (.ofNat 1), .int .i64 (.ofNat 1), .int .i64 (.ofNat 0), .int .i64 (.ofNat 1), .int .i64 (.ofNat 1), .int .i64 (.ofNat 0), .int .i64 (.ofNat 1), .int .i64 (.ofNat 1), .int .i64 (.ofNat 2), .int .i64 (.ofNat 0), .int .i64 (.ofNat 1)]),
    (4, .cells true 0 [.int .i64 (.ofNat 0), .int .i64 (.ofNat 0), .int .i64 (.ofNat 3), .int .i64 (.ofNat 0), .int .i64 (.ofNat 1), .int .i64 (.ofNat 0), .int .i64 (.ofNat 2), .int .i64 (.ofNat 0)])],
   [],
   .tuple ⟨[.int .i64 (.ofNat 0), .int .i64 (.ofNat 41)]⟩⟩
theorem zf37_ok : zf37.okS EE.G = true := by kernel_rfl
theorem zf37_run : evT EE zaT 1000000000 (.call zf37.f zf37.args) zf37.heap (keptK zf37) = some (.bool true) := by kernel_rfl
theorem zf37_h : zf37.holds EE := ent_run envOk zaT_holds _ _ zf37_ok zf37_run
-- decani/strain.Costs, 1707 steps
noncomputable def zf47 : Ent :=
  ⟨11, [.agg ⟨[.slice (some ⟨2, 0, none⟩) 2 2, .int .i64 (.ofNat 2), .int .i64 (.ofNat 3), .int .i64 (.ofNat 4), .int .i64 (.ofNat 4), .int .i64 (.ofNat 3), .int .i64 (.ofNat 4), .slice (some ⟨3, 0, none⟩) 4 4, .slice none 0 0, .slice (some ⟨4, 0, none⟩) 1 1]⟩, .int .i64 (.negSucc 0)], 5,
   [(0, .cells false 0 [.int .i64 (.ofNat 5), .int .i64 (.ofNat 3)]),
    (1, .cells false 0 [.int .i64 (.negSucc 0), .int .i64 (.negSucc 0), .int .i64 (.negSucc 0)]),
    (2, .cells true 0 [.int .i64 (.ofNat 10), .int .i64 (.ofNat 11), .int .i64 (.ofNat 8), .int .i64 (.ofNat 8)]),
    (3, .cells true 0 [.int .i64 (.ofNat 1), .int .i64 (.ofNat 1), .int .i64 (.ofNat 1), .int .i64 (.ofNat 0), .int .i64 (.ofNat 1), .int .i64 (.ofNat 1), .int .i64 (.ofNat 0), .int .i64 (.ofNat 1), .int .i64 (.ofNat 1), .int .i64 (.ofNat 2), .int .i64 (.ofNat 0), .int .i64 (.ofNat 1)]),
    (4, .cells true 0 [.int .i64 (.ofNat 0), .int .i64 (.ofNat 0), .int .i64 (.negSucc 150), .int .i64 (.ofNat 0)])],
   [],
   .tuple ⟨[.agg ⟨[.int .i64 (.ofNat 0), .int .i64 (.ofNat 0)]⟩, .int .i64 (.ofNat 40)]⟩⟩
theorem zf47_ok : zf47.okS EE.G = true := by kernel_rfl
theorem zf47_run : evT EE zaT 1000000000 (.call zf47.f zf47.args) zf47.heap (keptK zf47) = some (.bool true) := by kernel_rfl
theorem zf47_h : zf47.holds EE := ent_run envOk zaT_holds _ _ zf47_ok zf47_run
-- decani/strain.First, 1673 steps
noncomputable def zf55 : Ent :=
  ⟨13, [.agg ⟨[.slice (some ⟨2, 0, none⟩) 2 2, .int .i64 (.ofNat 2), .int .i64 (.ofNat 3), .int .i64 (.ofNat 4), .int .i64 (.ofNat 4), .int .i64 (.ofNat 3), .int .i64 (.ofNat 4), .slice (some ⟨3, 0, none⟩) 4 4, .slice none 0 0, .slice (some ⟨4, 0, none⟩) 1 1]⟩], 5,
   [(0, .cells false 0 [.int .i64 (.ofNat 5), .int .i64 (.ofNat 3)]),
    (1, .cells false 0 [.int .i64 (.negSucc 0), .int .i64 (.negSucc 0), .int .i64 (.negSucc 0)]),
    (2, .cells true 0 [.int .i64 (.ofNat 10), .int .i64 (.ofNat 11), .int .i64 (.ofNat 8), .int .i64 (.ofNat 8)]),
    (3, .cells true 0 [.int .i64 (.ofNat 1), .int .i64 (.ofNat 1), .int .i64 (.ofNat 1), .int .i64 (.ofNat 0), .int .i64 (.ofNat 1), .int .i64 (.ofNat 1), .int .i64 (.ofNat 0), .int .i64 (.ofNat 1), .int .i64 (.ofNat 1), .int .i64 (.ofNat 2), .int .i64 (.ofNat 0), .int .i64 (.ofNat 1)]),
    (4, .cells true 0 [.int .i64 (.ofNat 0), .int .i64 (.ofNat 0), .int .i64 (.ofNat 0), .int .i64 (.ofNat 4)])],
   [],
   .tuple ⟨[.int .i64 (.ofNat 0), .int .i64 (.ofNat 0), .int .i64 (.ofNat 40)]⟩⟩
theorem zf55_ok : zf55.okS EE.G = true := by kernel_rfl
theorem zf55_run : evT EE zaT 1000000000 (.call zf55.f zf55.args) zf55.heap (keptK zf55) = some (.bool true) := by kernel_rfl
theorem zf55_h : zf55.holds EE := ent_run envOk zaT_holds _ _ zf55_ok zf55_run
-- decani/strain.Plan, 1653 steps
noncomputable def zf63 : Ent :=
  ⟨16, [.agg ⟨[.slice (some ⟨2, 0, none⟩) 2 2, .int .i64 (.ofNat 2), .int .i64 (.ofNat 3), .int .i64 (.ofNat 4), .int .i64 (.ofNat 4), .int .i64 (.ofNat 3), .int .i64 (.ofNat 4), .slice (some ⟨3, 0, none⟩) 4 4, .slice none 0 0, .slice (some ⟨4, 0, none⟩) 1 1]⟩], 5,
   [(0, .cells false 0 [.int .i64 (.ofNat 5), .int .i64 (.ofNat 3)]),
    (1, .cells false 0 [.int .i64 (.negSucc 0), .int .i64 (.negSucc 0), .int .i64 (.negSucc 0)]),
    (2, .cells true 0 [.int .i64 (.ofNat 10), .int .i64 (.ofNat 11), .int .i64 (.ofNat 8), .int .i64 (.ofNat 8)]),
    (3, .cells true 0 [.int .i64 (.ofNat 1), .int .i64 (.ofNat 1), .int .i64 (.ofNat 1), .int .i64 (.ofNat 0), .int .i64 (.ofNat 1), .int .i64 (.ofNat 1), .int .i64 (.ofNat 0), .int .i64 (.ofNat 1), .int .i64 (.ofNat 1), .int .i64 (.ofNat 2), .int .i64 (.ofNat 0), .int .i64 (.ofNat 1)]),
    (4, .cells true 0 [.int .i64 (.ofNat 0), .int .i64 (.ofNat 0), .int .i64 (.negSucc 150), .int .i64 (.ofNat 0)])],
   [],
   .tuple ⟨[.slice none 0 0, .int .i64 (.ofNat 40)]⟩⟩
theorem zf63_ok : zf63.okS EE.G = true := by kernel_rfl
theorem zf63_run : evT EE zaT 1000000000 (.call zf63.f zf63.args) zf63.heap (keptK zf63) = some (.bool true) := by kernel_rfl
theorem zf63_h : zf63.holds EE := ent_run envOk zaT_holds _ _ zf63_ok zf63_run
-- decani/strain.Plan, 1635 steps
noncomputable def zf71 : Ent :=
  ⟨16, [.agg ⟨[.slice (some ⟨2, 0, none⟩) 2 2, .int .i64 (.ofNat 2), .int .i64 (.ofNat 3), .int .i64 (.ofNat 4), .int .i64 (.ofNat 4), .int .i64 (.ofNat 3), .int .i64 (.ofNat 4), .slice (some ⟨3, 0, none⟩) 4 4, .slice none 0 0, .slice (some ⟨4, 0, none⟩) 1 1]⟩], 5,
   [(0, .cells false 0 [.int .i64 (.ofNat 5), .int .i64 (.ofNat 3)]),
    (1, .cells false 0 [.int .i64 (.negSucc 0), .int .i64 (.negSucc 0), .int .i64 (.negSucc 0)]),
    (2, .cells true 0 [.int .i64 (.ofNat 10), .int .i64 (.ofNat 11), .int .i64 (.ofNat 8), .int .i64 (.ofNat 8)]),
    (3, .cells true 0 [.int .i64 (.ofNat 1), .int .i64 (.ofNat 1), .int .i64 (.ofNat 1), .int .i64 (.ofNat 0), .int .i64 (.ofNat 1), .int .i64 (.ofNat 1), .int .i64 (.ofNat 0), .int .i64 (.ofNat 1), .int .i64 (.ofNat 1), .int .i64 (.ofNat 2), .int .i64 (.ofNat 0), .int .i64 (.ofNat 1)]),
    (4, .cells true 0 [.int .i64 (.ofNat 0), .int .i64 (.ofNat 4), .int .i64 (.ofNat 0), .int .i64 (.ofNat 0)])],
   [],
   .tuple ⟨[.slice none 0 0, .int .i64 (.ofNat 40)]⟩⟩
theorem zf71_ok : zf71.okS EE.G = true := by kernel_rfl
theorem zf71_run : evT EE zaT 1000000000 (.call zf71.f zf71.args) zf71.heap (keptK zf71) = some (.bool true) := by kernel_rfl
theorem zf71_h : zf71.holds EE := ent_run envOk zaT_holds _ _ zf71_ok zf71_run
-- decani/strain.Fits, 1606 steps
noncomputable def zf79 : Ent :=
  ⟨17, [.agg ⟨[.slice (some ⟨2, 0, none⟩) 2 2, .int .i64 (.ofNat 2), .int .i64 (.ofNat 3), .int .i64 (.ofNat 4), .int .i64 (.ofNat 4), .int .i64 (.ofNat 3), .int .i64 (.ofNat 4), .slice (some ⟨3, 0, none⟩) 4 4, .slice (some ⟨4, 0, none⟩) 1 18446744073709551616, .slice none 0 0]⟩, .agg ⟨[.int .i64 (.negSucc 0), .int .i64 (.ofNat 0), .int .i64 (.ofNat 0), .int .i64 (.ofNat 0)]⟩], 5,
   [(0, .cells false 0 [.int .i64 (.ofNat 5), .int .i64 (.ofNat 3)]),
    (1, .cells false 0 [.int .i64 (.negSucc 0), .int .i64 (.negSucc 0), .int .i64 (.negSucc 0)]),
    (2, .cells true 0 [.int .i64 (.ofNat 10), .int .i64 (.ofNat 11), .int .i64 (.ofNat 8), .int .i64 (.ofNat 8)]),
    (3, .cells true 0 [.int .i64 (.ofNat 1), .int .i64 (.ofNat 1), .int .i64 (.ofNat 1), .int .i64 (.ofNat 0), .int .i64 (.ofNat 1), .int .i64 (.ofNat 1), .int .i64 (.ofNat 0), .int .i64 (.ofNat 1), .int .i64 (.ofNat 1), .int .i64 (.ofNat 2), .int .i64 (.ofNat 0), .int .i64 (.ofNat 1)]),
    (4, .cells true 3 [.int .i64 (.ofNat 4), .int .i64 (.ofNat 0)])],
   [],
   .tuple ⟨[.bool false, .int .i64 (.ofNat 40)]⟩⟩
theorem zf79_ok : zf79.okS EE.G = true := by kernel_rfl
theorem zf79_run : evT EE zaT 1000000000 (.call zf79.f zf79.args) zf79.heap (keptK zf79) = some (.bool true) := by kernel_rfl
theorem zf79_h : zf79.holds EE := ent_run envOk zaT_holds _ _ zf79_ok zf79_run
-- decani/strain.Check, 1593 steps
noncomputable def zf87 : Ent :=
  ⟨19, [.agg ⟨[.slice (some ⟨2, 0, none⟩) 2 2, .int .i64 (.ofNat 2), .int .i64 (.ofNat 3), .int .i64 (.ofNat 4), .int .i64 (.ofNat 4), .int .i64 (.ofNat 3), .int .i64 (.ofNat 4), .slice (some ⟨3, 0, none⟩) 4 4, .slice none 0 0, .slice (some ⟨4, 0, none⟩) 1 1]⟩], 5,
   [(0, .cells false 0 [.int .i64 (.ofNat 5), .int .i64 (.ofNat 3)]),
    (1, .cells false 0 [.int .i64 (.negSucc 0), .int .i64 (.negSucc 0), .int .i64 (.negSucc 0)]),
    (2, .cells true 0 [.int .i64 (.ofNat 10), .int .i64 (.ofNat 11), .int .i64 (.ofNat 8), .int .i64 (.ofNat 8)]),
    (3, .cells true 0 [.int .i64 (.ofNat 1), .int .i64 (.ofNat 1), .int .i64 (.ofNat 1), .int .i64 (.ofNat 0), .int .i64 (.ofNat 1), .int .i64 (.ofNat 1), .int .i64 (.ofNat 0), .int .i64 (.ofNat 1), .int .i64 (.ofNat 1), .int .i64 (.ofNat 2), .int .i64 (.ofNat 0), .int .i64 (.ofNat 1)]),
    (4, .cells true 0 [.int .i64 (.ofNat 0), .int .i64 (.ofNat 0), .int .i64 (.ofNat 31), .int .i64 (.ofNat 0)])],
   [],
   .int .i64 (.ofNat 40)⟩
theorem zf87_ok : zf87.okS EE.G = true := by kernel_rfl
theorem zf87_run : evT EE zaT 1000000000 (.call zf87.f zf87.args) zf87.heap (keptK zf87) = some (.bool true) := by kernel_rfl
theorem zf87_h : zf87.holds EE := ent_run envOk zaT_holds _ _ zf87_ok zf87_run
-- decani/strain.Plan, 1535 steps
noncomputable def zf95 : Ent :=
  ⟨16, [.agg ⟨[.slice (some ⟨2, 0, none⟩) 2 2, .int .i64 (.ofNat 2), .int .i64 (.ofNat 3), .int .i64 (.ofNat 4), .int .i64 (.ofNat 4), .int .i64 (.ofNat 3), .int .i64 (.ofNat 4), .slice (some ⟨3, 0, none⟩) 4 4, .slice (some ⟨4, 0, none⟩) 1 18446744073709551616, .slice none 0 0]⟩], 5,
   [(0, .cells false 0 [.int .i64 (.ofNat 5), .int .i64 (.ofNat 3)]),
    (1, .cells false 0 [.int .i64 (.negSucc 0), .int .i64 (.negSucc 0), .int .i64 (.negSucc 0)]),
    (2, .cells true 0 [.int .i64 (.ofNat 10), .int .i64 (.ofNat 11), .int .i64 (.ofNat 8), .int .i64 (.ofNat 8)]),
    (3, .cells true 0 [.int .i64 (.ofNat 1), .int .i64 (.ofNat 1), .int .i64 (.ofNat 1), .int .i64 (.ofNat 0), .int .i64 (.ofNat 1), .int .i64 (.ofNat 1), .int .i64 (.ofNat 0), .int .i64 (.ofNat 1), .int .i64 (.ofNat 1), .int .i64 (.ofNat 2), .int .i64 (.ofNat 0), .int .i64 (.ofNat 1)]),
    (4, .cells true 3 [.int .i64 (.ofNat 4), .int .i64 (.ofNat 0)])],
   [],
   .tuple ⟨[.slice none 0 0, .int .i64 (.ofNat 40)]⟩⟩
theorem zf95_ok : zf95.okS EE.G = true := by kernel_rfl
theorem zf95_run : evT EE zaT 1000000000 (.call zf95.f zf95.args) zf95.heap (keptK zf95) = some (.bool true) := by kernel_rfl
theorem zf95_h : zf95.holds EE := ent_run envOk zaT_holds _ _ zf95_ok zf95_run
-- decani/strain.Left, 1184 steps
noncomputable def zf103 : Ent :=
  ⟨10, [.agg ⟨[.slice (some ⟨2, 0, none⟩) 2 2, .int .i64 (.ofNat 2), .int .i64 (.ofNat 3), .int .i64 (.ofNat 4), .int .i64 (.ofNat 4), .int .i64 (.ofNat 3), .int .i64 (.ofNat 4), .slice (some ⟨3, 0, none⟩) 4 4, .slice none 0 0, .slice none 0 0]⟩, .int .i64 (.negSucc 0), .int .i64 (.ofNat 0)], 4,
   [(0, .cells false 0 [.int .i64 (.ofNat 5), .int .i64 (.ofNat 3)]),
    (1, .cells false 0 [.int .i64 (.negSucc 0), .int .i64 (.negSucc 0), .int .i64 (.negSucc 0)]),
    (2, .cells true 0 [.int .i64 (.ofNat 10), .int .i64 (.ofNat 11), .int .i64 (.ofNat 8), .int .i64 (.ofNat 8)]),
    (3, .cells true 0 [.int .i64 (.ofNat 1), .int .i64 (.ofNat 1), .int .i64 (.ofNat 1), .int .i64 (.ofNat 0), .int .i64 (.ofNat 1), .int .i64 (.ofNat 4), .int .i64 (.ofNat 0), .int .i64 (.ofNat 1), .int .i64 (.ofNat 1), .int .i64 (.ofNat 2), .int .i64 (.ofNat 0), .int .i64 (.ofNat 1)])],
   [],
   .tuple ⟨[.agg ⟨[.int .i64 (.ofNat 0), .int .i64 (.ofNat 0)]⟩, .int .i64 (.ofNat 40)]⟩⟩
theorem zf103_ok : zf103.okS EE.G = true := by kernel_rfl
theorem zf103_run : evT EE zaT 1000000000 (.call zf103.f zf103.args) zf103.heap (keptK zf103) = some (.bool true) := by kernel_rfl
theorem zf103_h : zf103.holds EE := ent_run envOk zaT_holds _ _ zf103_ok zf103_run
-- decani/strain.Right, 1085 steps
noncomputable def zf109 : Ent :=
  ⟨9, [.agg ⟨[.slice (some ⟨2, 0, none⟩) 2 2, .int .i64 (.ofNat 2), .int .i64 (.ofNat 3), .int .i64 (.ofNat 4), .int .i64 (.ofNat 4), .int .i64 (.ofNat 3), .int .i64 (.ofNat 4), .slice (some ⟨3, 0, none⟩) 4 4, .slice none 0 0, .slice none 0 0]⟩], 4,
   [(0, .cells false 0 [.int .i64 (.ofNat 5), .int .i64 (.ofNat 3)]),
    (1, .cells false 0 [.int .i64 (.negSucc 0), .int .i64 (.negSucc 0), .int .i64 (.negSucc 0)]),
    (2, .cells true 0 [.int .i64 (.ofNat 10), .int .i64 (.ofNat 11), .int .i64 (.ofNat 8), .int .i64 (.ofNat 8)]),
    (3, .cells true 0 [.int .i64 (.ofNat 1), .int .i64 (.ofNat 1), .int .i64 (.ofNat 1), .int .i64 (.ofNat 0), .int .i64 (.ofNat 1), .int .i64 (.ofNat 4), .int .i64 (.ofNat 0), .int .i64 (.ofNat 1), .int .i64 (.ofNat 1), .int .i64 (.ofNat 2), .int .i64 (.ofNat 0), .int .i64 (.ofNat 1)])],
   [],
   .tuple ⟨[.bool false, .int .i64 (.ofNat 40)]⟩⟩
theorem zf109_ok : zf109.okS EE.G = true := by kernel_rfl
theorem zf109_run : evT EE zaT 1000000000 (.call zf109.f zf109.args) zf109.heap (keptK zf109) = some (.bool true) := by kernel_rfl
theorem zf109_h : zf109.holds EE := ent_run envOk zaT_holds _ _ zf109_ok zf109_run
-- decani/strain.Plan, 959 steps
noncomputable def zf117 : Ent :=
  ⟨16, [.agg ⟨[.slice (some ⟨2, 0, none⟩) 2 2, .int .i64 (.ofNat 2), .int .i64 (.ofNat 3), .int .i64 (.ofNat 4), .int .i64 (.ofNat 4), .int .i64 (.ofNat 3), .int .i64 (.ofNat 4), .slice (some ⟨3, 0, none⟩) 4 4, .slice none 0 0, .slice none 0 0]⟩], 4,
   [(0, .cells false 0 [.int .i64 (.ofNat 5), .int .i64 (.ofNat 3)]),
    (1, .cells false 0 [.int .i64 (.negSucc 0), .int .i64 (.negSucc 0), .int .i64 (.negSucc 0)]),
    (2, .cells true 0 [.int .i64 (.ofNat 10), .int .i64 (.ofNat 11), .int .i64 (.ofNat 8), .int .i64 (.ofNat 8)]),
    (3, .cells true 0 [.int .i64 (.ofNat 3), .int .i64 (.ofNat 1), .int .i64 (.ofNat 1), .int .i64 (.ofNat 0), .int .i64 (.ofNat 1), .int .i64 (.ofNat 1), .int .i64 (.ofNat 0), .int .i64 (.ofNat 1), .int .i64 (.ofNat 1), .int .i64 (.ofNat 2), .int .i64 (.ofNat 0), .int .i64 (.ofNat 1)])],
   [],
   .tuple ⟨[.slice none 0 0, .int .i64 (.ofNat 40)]⟩⟩
theorem zf117_ok : zf117.okS EE.G = true := by kernel_rfl
theorem zf117_run : evT EE zaT 1000000000 (.call zf117.f zf117.args) zf117.heap (keptK zf117) = some (.bool true) := by kernel_rfl
theorem zf117_h : zf117.holds EE := ent_run envOk zaT_holds _ _ zf117_ok zf117_run
-- decani/strain.First, 819 steps
noncomputable def zf126 : Ent :=
  ⟨13, [.agg ⟨[.slice (some ⟨2, 0, none⟩) 2 2, .int .i64 (.ofNat 2), .int .i64 (.ofNat 3), .int .i64 (.ofNat 4), .int .i64 (.ofNat 4), .int .i64 (.ofNat 7), .int .i64 (.ofNat 7), .slice (some ⟨3, 0, none⟩) 4 4, .slice none 0 0, .slice none 0 0]⟩], 4,
   [(0, .cells false 0 [.int .i64 (.ofNat 5), .int .i64 (.ofNat 3)]),
    (1, .cells false 0 [.int .i64 (.negSucc 0), .int .i64 (.negSucc 0), .int .i64 (.negSucc 0)]),
    (2, .cells true 0 [.int .i64 (.ofNat 10), .int .i64 (.ofNat 11), .int .i64 (.ofNat 8), .int .i64 (.ofNat 8)]),
    (3, .cells true 0 [.int .i64 (.ofNat 1), .int .i64 (.ofNat 1), .int .i64 (.ofNat 1), .int .i64 (.ofNat 0), .int .i64 (.ofNat 1), .int .i64 (.ofNat 1), .int .i64 (.ofNat 0), .int .i64 (.ofNat 1), .int .i64 (.ofNat 1), .int .i64 (.ofNat 2), .int .i64 (.ofNat 0), .int .i64 (.ofNat 1)])],
   [],
   .tuple ⟨[.int .i64 (.ofNat 0), .int .i64 (.ofNat 0), .int .i64 (.ofNat 40)]⟩⟩
theorem zf126_ok : zf126.okS EE.G = true := by kernel_rfl
theorem zf126_run : evT EE zaT 1000000000 (.call zf126.f zf126.args) zf126.heap (keptK zf126) = some (.bool true) := by kernel_rfl
theorem zf126_h : zf126.holds EE := ent_run envOk zaT_holds _ _ zf126_ok zf126_run
-- decani/strain.Beyond, 641 steps
noncomputable def zf135 : Ent :=
  ⟨12, [.agg ⟨[.slice (some ⟨2, 0, none⟩) 2 2, .int .i64 (.ofNat 2), .int .i64 (.ofNat 4), .int .i64 (.ofNat 4), .int .i64 (.ofNat 4), .int .i64 (.ofNat 3), .int .i64 (.ofNat 4), .slice (some ⟨3, 0, none⟩) 4 4, .slice none 0 0, .slice none 0 0]⟩, .int .i64 (.negSucc 0)], 4,
   [(0, .cells false 0 [.int .i64 (.ofNat 5), .int .i64 (.ofNat 3)]),
    (1, .cells false 0 [.int .i64 (.negSucc 0), .int .i64 (.negSucc 0), .int .i64 (.negSucc 0)]),
    (2, .cells true 0 [.int .i64 (.ofNat 10), .int .i64 (.ofNat 11), .int .i64 (.ofNat 8), .int .i64 (.ofNat 8)]),
    (3, .cells true 0 [.int .i64 (.ofNat 1), .int .i64 (.ofNat 1), .int .i64 (.ofNat 1), .int .i64 (.ofNat 0), .int .i64 (.ofNat 1), .int .i64 (.ofNat 1), .int .i64 (.ofNat 0), .int .i64 (.ofNat 1), .int .i64 (.ofNat 1), .int .i64 (.ofNat 2), .int .i64 (.ofNat 0), .int .i64 (.ofNat 1)])],
   [],
   .tuple ⟨[.int .i64 (.ofNat 0), .int .i64 (.ofNat 40)]⟩⟩
theorem zf135_ok : zf135.okS EE.G = true := by kernel_rfl
theorem zf135_run : evT EE zaT 1000000000 (.call zf135.f zf135.args) zf135.heap (keptK zf135) = some (.bool true) := by kernel_rfl
theorem zf135_h : zf135.holds EE := ent_run envOk zaT_holds _ _ zf135_ok zf135_run
-- decani/strain.Right, 408 steps
noncomputable def zf149 : Ent :=
  ⟨9, [.agg ⟨[.slice (some ⟨2, 0, none⟩) 2 2, .int .i64 (.ofNat 2), .int .i64 (.ofNat 3), .int .i64 (.ofNat 4), .int .i64 (.ofNat 4), .int .i64 (.ofNat 3), .int .i64 (.ofNat 4), .slice (some ⟨3, 0, none⟩) 4 4, .slice none 0 0, .slice none 0 0]⟩], 4,
   [(0, .cells false 0 [.int .i64 (.ofNat 5), .int .i64 (.ofNat 3)]),
    (1, .cells false 0 [.int .i64 (.negSucc 0), .int .i64 (.negSucc 0), .int .i64 (.negSucc 0)]),
    (2, .cells true 0 [.int .i64 (.ofNat 10), .int .i64 (.ofNat 11), .int .i64 (.ofNat 31), .int .i64 (.ofNat 31)]),
    (3, .cells true 0 [.int .i64 (.ofNat 1), .int .i64 (.ofNat 1), .int .i64 (.ofNat 1), .int .i64 (.ofNat 0), .int .i64 (.ofNat 1), .int .i64 (.ofNat 1), .int .i64 (.ofNat 0), .int .i64 (.ofNat 1), .int .i64 (.ofNat 1), .int .i64 (.ofNat 2), .int .i64 (.ofNat 0), .int .i64 (.ofNat 1)])],
   [],
   .tuple ⟨[.bool false, .int .i64 (.ofNat 40)]⟩⟩
theorem zf149_ok : zf149.okS EE.G = true := by kernel_rfl
theorem zf149_run : evT EE zaT 1000000000 (.call zf149.f zf149.args) zf149.heap (keptK zf149) = some (.bool true) := by kernel_rfl
theorem zf149_h : zf149.holds EE := ent_run envOk zaT_holds _ _ zf149_ok zf149_run
-- decani/strain.Costs, 388 steps
noncomputable def zf153 : Ent :=
  ⟨11, [.agg ⟨[.slice (some ⟨2, 0, none⟩) 2 2, .int .i64 (.ofNat 2), .int .i64 (.ofNat 3), .int .i64 (.ofNat 4), .int .i64 (.ofNat 4), .int .i64 (.ofNat 3), .int .i64 (.ofNat 4), .slice (some ⟨3, 0, none⟩) 4 4, .slice none 0 0, .slice none 0 0]⟩, .int .i64 (.negSucc 0)], 4,
   [(0, .cells false 0 [.int .i64 (.ofNat 5), .int .i64 (.ofNat 3)]),
    (1, .cells false 0 [.int .i64 (.negSucc 0), .int .i64 (.negSucc 0), .int .i64 (.negSucc 0)]),
    (2, .cells true 0 [.int .i64 (.ofNat 10), .int .i64 (.ofNat 13), .int .i64 (.ofNat 8), .int .i64 (.ofNat 8)]),
    (3, .cells true 0 [.int .i64 (.ofNat 1), .int .i64 (.ofNat 1), .int .i64 (.ofNat 1), .int .i64 (.ofNat 0), .int .i64 (.ofNat 1), .int .i64 (.ofNat 1), .int .i64 (.ofNat 0), .int .i64 (.ofNat 1), .int .i64 (.ofNat 1), .int .i64 (.ofNat 2), .int .i64 (.ofNat 0), .int .i64 (.ofNat 1)])],
   [],
   .tuple ⟨[.agg ⟨[.int .i64 (.ofNat 0), .int .i64 (.ofNat 0)]⟩, .int .i64 (.ofNat 40)]⟩⟩
theorem zf153_ok : zf153.okS EE.G = true := by kernel_rfl
theorem zf153_run : evT EE zaT 1000000000 (.call zf153.f zf153.args) zf153.heap (keptK zf153) = some (.bool true) := by kernel_rfl
theorem zf153_h : zf153.holds EE := ent_run envOk zaT_holds _ _ zf153_ok zf153_run
-- decani/strain.Costs, 196 steps
noncomputable def zf167 : Ent :=
  ⟨11, [.agg ⟨[.slice (some ⟨2, 0, none⟩) 2 2, .int .i64 (.ofNat 2), .int .i64 (.ofNat 3), .int .i64 (.ofNat 4), .int .i64 (.ofNat 4), .int .i64 (.ofNat 3), .int .i64 (.ofNat 4), .slice (some ⟨3, 0, none⟩) 8 18446744073709551616, .slice none 0 0, .slice none 0 0]⟩, .int .i64 (.negSucc 0)], 4,
   [(0, .cells false 0 [.int .i64 (.ofNat 5), .int .i64 (.ofNat 3)]),
    (1, .cells false 0 [.int .i64 (.negSucc 0), .int .i64 (.negSucc 0), .int .i64 (.negSucc 0)]),
    (2, .cells true 0 [.int .i64 (.ofNat 10), .int .i64 (.ofNat 11), .int .i64 (.ofNat 8), .int .i64 (.ofNat 8)]),
    (3, .cells true 4 [.int .i64 (.ofNat 1), .int .i64 (.ofNat 1), .int .i64 (.ofNat 1), .int .i64 (.ofNat 0), .int .i64 (.ofNat 1), .int .i64 (.ofNat 1), .int .i64 (.ofNat 0), .int .i64 (.ofNat 1), .int .i64 (.ofNat 1), .int .i64 (.ofNat 2), .int .i64 (.ofNat 0), .int .i64 (.ofNat 1), .int .i64 (.ofNat 1), .int .i64 (.ofNat 1), .int .i64 (.ofNat 1), .int .i64 (.ofNat 0), .int .i64 (.ofNat 1), .int .i64 (.ofNat 1), .int .i64 (.ofNat 0), .int .i64 (.ofNat 1), .int .i64 (.ofNat 1), .int .i64 (.ofNat 2), .int .i64 (.ofNat 0), .int .i64 (.ofNat 1)])],
   [],
   .tuple ⟨[.agg ⟨[.int .i64 (.ofNat 0), .int .i64 (.ofNat 0)]⟩, .int .i64 (.ofNat 40)]⟩⟩
theorem zf167_ok : zf167.okS EE.G = true := by kernel_rfl
theorem zf167_run : evT EE zaT 1000000000 (.call zf167.f zf167.args) zf167.heap (keptK zf167) = some (.bool true) := by kernel_rfl
theorem zf167_h : zf167.holds EE := ent_run envOk zaT_holds _ _ zf167_ok zf167_run
-- decani/strain.Left, 190 steps
noncomputable def zf172 : Ent :=
  ⟨10, [.agg ⟨[.slice (some ⟨2, 0, none⟩) 4 18446744073709551616, .int .i64 (.ofNat 2), .int .i64 (.ofNat 3), .int .i64 (.ofNat 4), .int .i64 (.ofNat 4), .int .i64 (.ofNat 3), .int .i64 (.ofNat 4), .slice (some ⟨3, 0, none⟩) 4 4, .slice none 0 0, .slice none 0 0]⟩, .int .i64 (.negSucc 0), .int .i64 (.ofNat 0)], 4,
   [(0, .cells false 0 [.int .i64 (.ofNat 5), .int .i64 (.ofNat 3)]),
    (1, .cells false 0 [.int .i64 (.negSucc 0), .int .i64 (.negSucc 0), .int .i64 (.negSucc 0)]),
    (2, .cells true 3 [.int .i64 (.ofNat 10), .int .i64 (.ofNat 11), .int .i64 (.ofNat 8), .int .i64 (.ofNat 8), .int .i64 (.ofNat 10), .int .i64 (.ofNat 11), .int .i64 (.ofNat 8), .int .i64 (.ofNat 8)]),
    (3, .cells true 0 [.int .i64 (.ofNat 1), .int .i64 (.ofNat 1), .int .i64 (.ofNat 1), .int .i64 (.ofNat 0), .int .i64 (.ofNat 1), .int .i64 (.ofNat 1), .int .i64 (.ofNat 0), .int .i64 (.ofNat 1), .int .i64 (.ofNat 1), .int .i64 (.ofNat 2), .int .i64 (.ofNat 0), .int .i64 (.ofNat 1)])],
   [],
   .tuple ⟨[.agg ⟨[.int .i64 (.ofNat 0), .int .i64 (.ofNat 0)]⟩, .int .i64 (.ofNat 40)]⟩⟩
theorem zf172_ok : zf172.okS EE.G = true := by kernel_rfl
theorem zf172_run : evT EE zaT 1000000000 (.call zf172.f zf172.args) zf172.heap (keptK zf172) = some (.bool true) := by kernel_rfl
theorem zf172_h : zf172.holds EE := ent_run envOk zaT_holds _ _ zf172_ok zf172_run
-- decani/strain.Right, 125 steps
noncomputable def zf186 : Ent :=
  ⟨9, [.agg ⟨[.slice (some ⟨2, 0, none⟩) 2 2, .int .i64 (.ofNat 2), .int .i64 (.ofNat 3), .int .i64 (.ofNat 4), .int .i64 (.ofNat 4), .int .i64 (.ofNat 3), .int .i64 (.ofNat 4), .slice (some ⟨3, 0, none⟩) 4 4, .slice none 0 0, .slice (some ⟨4, 0, none⟩) 5 5]⟩], 5,
   [(0, .cells false 0 [.int .i64 (.ofNat 5), .int .i64 (.ofNat 3)]),
    (1, .cells false 0 [.int .i64 (.negSucc 0), .int .i64 (.negSucc 0), .int .i64 (.negSucc 0)]),
    (2, .cells true 0 [.int .i64 (.ofNat 10), .int .i64 (.ofNat 11), .int .i64 (.ofNat 8), .int .i64 (.ofNat 8)]),
    (3, .cells true 0 [.int .i64 (.ofNat 1), .int .i64 (.ofNat 1), .int .i64 (.ofNat 1), .int .i64 (.ofNat 0), .int .i64 (.ofNat 1), .int .i64 (.ofNat 1), .int .i64 (.ofNat 0), .int .i64 (.ofNat 1), .int .i64 (.ofNat 1), .int .i64 (.ofNat 2), .int .i64 (.ofNat 0), .int .i64 (.ofNat 1)]),
    (4, .cells true 0 [.int .i64 (.ofNat 0), .int .i64 (.ofNat 0), .int .i64 (.ofNat 0), .int .i64 (.ofNat 0), .int .i64 (.ofNat 0), .int .i64 (.ofNat 0), .int .i64 (.ofNat 0), .int .i64 (.ofNat 0), .int .i64 (.ofNat 0), .int .i64 (.ofNat 0), .int .i64 (.ofNat 0), .int .i64 (.ofNat 0), .int .i64 (.ofNat 0), .int .i64 (.ofNat 0), .int .i64 (.ofNat 0), .int .i64 (.ofNat 0), .int .i64 (.ofNat 0), .int .i64 (.ofNat 0), .int .i64 (.ofNat 0), .int .i64 (.ofNat 0)])],
   [],
   .tuple ⟨[.bool false, .int .i64 (.ofNat 40)]⟩⟩
theorem zf186_ok : zf186.okS EE.G = true := by kernel_rfl
theorem zf186_run : evT EE zaT 1000000000 (.call zf186.f zf186.args) zf186.heap (keptK zf186) = some (.bool true) := by kernel_rfl
theorem zf186_h : zf186.holds EE := ent_run envOk zaT_holds _ _ zf186_ok zf186_run
-- decani/strain.Right, 109 steps
noncomputable def zf192 : Ent :=
  ⟨9, [.agg ⟨[.slice (some ⟨2, 0, none⟩) 2 2, .int .i64 (.ofNat 2), .int .i64 (.ofNat 3), .int .i64 (.ofNat 4), .int .i64 (.ofNat 4), .int .i64 (.ofNat 3), .int .i64 (.ofNat 4), .slice (some ⟨3, 0, none⟩) 8 18446744073709551616, .slice none 0 0, .slice none 0 0]⟩], 4,
   [(0, .cells false 0 [.int .i64 (.ofNat 5), .int .i64 (.ofNat 3)]),
    (1, .cells false 0 [.int .i64 (.negSucc 0), .int .i64 (.negSucc 0), .int .i64 (.negSucc 0)]),
    (2, .cells true 0 [.int .i64 (.ofNat 10), .int .i64 (.ofNat 11), .int .i64 (.ofNat 8), .int .i64 (.ofNat 8)]),
    (3, .cells true 4 [.int .i64 (.ofNat 1), .int .i64 (.ofNat 1), .int .i64 (.ofNat 1), .int .i64 (.ofNat 0), .int .i64 (.ofNat 1), .int .i64 (.ofNat 1), .int .i64 (.ofNat 0), .int .i64 (.ofNat 1), .int .i64 (.ofNat 1), .int .i64 (.ofNat 2), .int .i64 (.ofNat 0), .int .i64 (.ofNat 1), .int .i64 (.ofNat 1), .int .i64 (.ofNat 1), .int .i64 (.ofNat 1), .int .i64 (.ofNat 0), .int .i64 (.ofNat 1), .int .i64 (.ofNat 1), .int .i64 (.ofNat 0), .int .i64 (.ofNat 1), .int .i64 (.ofNat 1), .int .i64 (.ofNat 2), .int .i64 (.ofNat 0), .int .i64 (.ofNat 1)])],
   [],
   .tuple ⟨[.bool false, .int .i64 (.ofNat 40)]⟩⟩
theorem zf192_ok : zf192.okS EE.G = true := by kernel_rfl
theorem zf192_run : evT EE zaT 1000000000 (.call zf192.f zf192.args) zf192.heap (keptK zf192) = some (.bool true) := by kernel_rfl
theorem zf192_h : zf192.holds EE := ent_run envOk zaT_holds _ _ zf192_ok zf192_run
-- decani/strain.Check, 64 steps
noncomputable def zf200 : Ent :=
  ⟨19, [.agg ⟨[.slice none 0 0, .int .i64 (.ofNat 0), .int .i64 (.ofNat 0), .int .i64 (.ofNat 0), .int .i64 (.ofNat 0), .int .i64 (.ofNat 0), .int .i64 (.ofNat 0), .slice none 0 0, .slice none 0 0, .slice none 0 0]⟩], 2,
   [(0, .cells false 0 [.int .i64 (.ofNat 5), .int .i64 (.ofNat 3)]),
    (1, .cells false 0 [.int .i64 (.negSucc 0), .int .i64 (.negSucc 0), .int .i64 (.negSucc 0)])],
   [],
   .int .i64 (.ofNat 40)⟩
theorem zf200_ok : zf200.okS EE.G = true := by kernel_rfl
theorem zf200_run : evT EE zaT 1000000000 (.call zf200.f zf200.args) zf200.heap (keptK zf200) = some (.bool true) := by kernel_rfl
theorem zf200_h : zf200.holds EE := ent_run envOk zaT_holds _ _ zf200_ok zf200_run
end Go.Proofs.YtgffhndedhbjlaaGreatDoor
