/- Known calls, part 17: what single calls hand back, at small heaps, by the kernel's own run of the evaluator. No conditions. -/
import Derived.Test.YtahphmhiehimiaaDoorVMT
set_option linter.all false
namespace Go.Proofs.YtahphmhiehimiaaDoor
open Go.Ai
set_option maxRecDepth 1000000
-- decani/candle.Dark, 17831 steps
noncomputable def vw17 : Ent :=
  ⟨11, [.agg ⟨[.int .i64 (.ofNat 10), .int .i64 (.ofNat 11), .int .i64 (.ofNat 30), .int .i64 (.ofNat 30), .int .i64 (.ofNat 2), .int .i64 (.ofNat 3), .int .i64 (.ofNat 4), .int .i64 (.ofNat 4), .slice (some ⟨1, 0, none⟩) 3 3, .slice (some ⟨2, 0, none⟩) 1 1, .slice (some ⟨3, 0, none⟩) 1 1]⟩, .int .i64 (.ofNat 0)], 4,
   [(0, .cells false 0 [.int .i64 (.negSucc 300), .int .i64 (.negSucc 300)]),
    (1, .cells true 0 [.int .i64 (.ofNat 4), .int .i64 (.ofNat 3), .int .i64 (.ofNat 4), .int .i64 (.ofNat 2), .int .i64 (.ofNat 6), .int .i64 (.ofNat 3), .int .i64 (.ofNat 5), .int .i64 (.ofNat 5), .int .i64 (.ofNat 2), .int .i64 (.ofNat 6), .int .i64 (.ofNat 6), .int .i64 (.ofNat 4), .int .i64 (.ofNat 6), .int .i64 (.ofNat 4), .int .i64 (.ofNat 6)]),
    (2, .cells true 0 [.int .i64 (.ofNat 2), .int .i64 (.ofNat 0), .int .i64 (.ofNat 4)]),
    (3, .cells true 0 [.int .i64 (.ofNat 0), .int .i64 (.ofNat 0), .int .i64 (.ofNat 8), .int .i64 (.ofNat 0)])],
   [],
   .tuple ⟨[.agg ⟨[.int .i64 (.ofNat 3), .int .i64 (.ofNat 3)]⟩, .int .i64 (.ofNat 0)]⟩⟩
theorem vw17_ok : vw17.okS EE.G = true := by kernel_rfl
theorem vw17_run : evT EE vmT 1000000000 (.call vw17.f vw17.args) vw17.heap (keptK vw17) = some (.bool true) := by kernel_rfl
theorem vw17_h : vw17.holds EE := ent_run envOk vmT_holds _ _ vw17_ok vw17_run
-- decani/candle.Buy, 11416 steps
noncomputable def vw21 : Ent :=
  ⟨14, [.agg ⟨[.int .i64 (.ofNat 10), .int .i64 (.ofNat 11), .int .i64 (.ofNat 30), .int .i64 (.ofNat 30), .int .i64 (.ofNat 2), .int .i64 (.ofNat 3), .int .i64 (.ofNat 4), .int .i64 (.ofNat 4), .slice (some ⟨1, 0, none⟩) 3 3, .slice (some ⟨2, 0, none⟩) 1 1, .slice (some ⟨3, 0, none⟩) 2 2]⟩, .int .i64 (.ofNat 1), .int .i64 (.ofNat 0)], 4,
   [(0, .cells false 0 [.int .i64 (.negSucc 300), .int .i64 (.negSucc 300)]),
    (1, .cells true 0 [.int .i64 (.ofNat 4), .int .i64 (.ofNat 3), .int .i64 (.ofNat 4), .int .i64 (.ofNat 2), .int .i64 (.ofNat 6), .int .i64 (.ofNat 3), .int .i64 (.ofNat 5), .int .i64 (.ofNat 5), .int .i64 (.ofNat 2), .int .i64 (.ofNat 6), .int .i64 (.ofNat 6), .int .i64 (.ofNat 4), .int .i64 (.ofNat 6), .int .i64 (.ofNat 4), .int .i64 (.ofNat 6)]),
    (2, .cells true 0 [.int .i64 (.ofNat 2), .int .i64 (.ofNat 0), .int .i64 (.ofNat 4)]),
    (3, .cells true 0 [.int .i64 (.ofNat 0), .int .i64 (.ofNat 0), .int .i64 (.ofNat 8), .int .i64 (.ofNat 0), .int .i64 (.ofNat 1), .int .i64 (.ofNat 0), .int .i64 (.ofNat 3), .int .i64 (.ofNat 0)])],
   [],
   .tuple ⟨[.int .i64 (.ofNat 0), .int .i64 (.ofNat 62)]⟩⟩
theorem vw21_ok : vw21.okS EE.G = true := by kernel_rfl
theorem vw21_run : evT EE vmT 1000000000 (.call vw21.f vw21.args) vw21.heap (keptK vw21) = some (.bool true) := by kernel_rfl
theorem vw21_h : vw21.holds EE := ent_run envOk vmT_holds _ _ vw21_ok vw21_run
-- decani/candle.Left, 2629 steps
noncomputable def vw26 : Ent :=
  ⟨9, [.agg ⟨[.int .i64 (.ofNat 10), .int .i64 (.ofNat 11), .int .i64 (.ofNat 30), .int .i64 (.ofNat 30), .int .i64 (.ofNat 2), .int .i64 (.ofNat 3), .int .i64 (.ofNat 4), .int .i64 (.ofNat 4), .slice (some ⟨1, 0, none⟩) 3 3, .slice (some ⟨2, 0, none⟩) 1 1, .slice (some ⟨3, 0, none⟩) 2 2]⟩, .int .i64 (.ofNat 0), .int .i64 (.ofNat 3)], 4,
   [(0, .cells false 0 [.int .i64 (.negSucc 300), .int .i64 (.negSucc 300)]),
    (1, .cells true 0 [.int .i64 (.ofNat 4), .int .i64 (.ofNat 3), .int .i64 (.ofNat 4), .int .i64 (.ofNat 2), .int .i64 (.ofNat 6), .int .i64 (.ofNat 3), .int .i64 (.ofNat 5), .int .i64 (.ofNat 5), .int .i64 (.ofNat 2), .int .i64 (.ofNat 6), .int .i64 (.ofNat 6), .int .i64 (.ofNat 4), .int .i64 (.ofNat 6), .int .i64 (.ofNat 4), .int .i64 (.ofNat 6)]),
    (2, .cells true 0 [.int .i64 (.ofNat 2), .int .i64 (.ofNat 0), .int .i64 (.ofNat 4)]),
    (3, .cells true 0 [.int .i64 (.ofNat 0), .int .i64 (.ofNat 0), .int .i64 (.ofNat 8), .int .i64 (.ofNat 0), .int .i64 (.ofNat 1), .int .i64 (.ofNat 0), .int .i64 (.ofNat 3), .int .i64 (.ofNat 0)])],
   [],
   .tuple ⟨[.agg ⟨[.int .i64 (.ofNat 0), .int .i64 (.ofNat 0)]⟩, .int .i64 (.ofNat 61)]⟩⟩
theorem vw26_ok : vw26.okS EE.G = true := by kernel_rfl
theorem vw26_run : evT EE vmT 1000000000 (.call vw26.f vw26.args) vw26.heap (keptK vw26) = some (.bool true) := by kernel_rfl
theorem vw26_h : vw26.holds EE := ent_run envOk vmT_holds _ _ vw26_ok vw26_run
-- decani/candle.Short, 2547 steps
noncomputable def vw31 : Ent :=
  ⟨12, [.agg ⟨[.int .i64 (.ofNat 10), .int .i64 (.ofNat 11), .int .i64 (.ofNat 30), .int .i64 (.ofNat 30), .int .i64 (.ofNat 2), .int .i64 (.ofNat 3), .int .i64 (.ofNat 4), .int .i64 (.ofNat 4), .slice (some ⟨1, 0, none⟩) 3 3, .slice (some ⟨2, 0, none⟩) 1 1, .slice (some ⟨3, 0, none⟩) 2 2]⟩, .int .i64 (.negSucc 0)], 4,
   [(0, .cells false 0 [.int .i64 (.negSucc 300), .int .i64 (.negSucc 300)]),
    (1, .cells true 0 [.int .i64 (.ofNat 4), .int .i64 (.ofNat 3), .int .i64 (.ofNat 4), .int .i64 (.ofNat 2), .int .i64 (.ofNat 6), .int .i64 (.ofNat 3), .int .i64 (.ofNat 5), .int .i64 (.ofNat 5), .int .i64 (.ofNat 2), .int .i64 (.ofNat 6), .int .i64 (.ofNat 6), .int .i64 (.ofNat 4), .int .i64 (.ofNat 6), .int .i64 (.ofNat 4), .int .i64 (.ofNat 6)]),
    (2, .cells true 0 [.int .i64 (.ofNat 2), .int .i64 (.ofNat 0), .int .i64 (.ofNat 4)]),
    (3, .cells true 0 [.int .i64 (.ofNat 0), .int .i64 (.ofNat 0), .int .i64 (.ofNat 8), .int .i64 (.ofNat 0), .int .i64 (.ofNat 1), .int .i64 (.ofNat 0), .int .i64 (.ofNat 3), .int .i64 (.ofNat 0)])],
   [],
   .tuple ⟨[.int .i64 (.ofNat 0), .int .i64 (.ofNat 61)]⟩⟩
theorem vw31_ok : vw31.okS EE.G = true := by kernel_rfl
theorem vw31_run : evT EE vmT 1000000000 (.call vw31.f vw31.args) vw31.heap (keptK vw31) = some (.bool true) := by kernel_rfl
theorem vw31_h : vw31.holds EE := ent_run envOk vmT_holds _ _ vw31_ok vw31_run
-- decani/candle.Left, 2346 steps
noncomputable def vw35 : Ent :=
  ⟨9, [.agg ⟨[.int .i64 (.ofNat 10), .int .i64 (.ofNat 11), .int .i64 (.ofNat 30), .int .i64 (.ofNat 30), .int .i64 (.ofNat 2), .int .i64 (.ofNat 3), .int .i64 (.ofNat 4), .int .i64 (.ofNat 4), .slice (some ⟨1, 0, none⟩) 3 3, .slice (some ⟨2, 0, none⟩) 1 1, .slice (some ⟨3, 0, none⟩) 1 1]⟩, .int .i64 (.negSucc 0), .int .i64 (.ofNat 0)], 4,
   [(0, .cells false 0 [.int .i64 (.negSucc 300), .int .i64 (.negSucc 300)]),
    (1, .cells true 0 [.int .i64 (.ofNat 4), .int .i64 (.ofNat 3), .int .i64 (.ofNat 4), .int .i64 (.ofNat 2), .int .i64 (.ofNat 6), .int .i64 (.ofNat 3), .int .i64 (.ofNat 5), .int .i64 (.ofNat 5), .int .i64 (.ofNat 2), .int .i64 (.ofNat 6), .int .i64 (.ofNat 6), .int .i64 (.ofNat 4), .int .i64 (.ofNat 6), .int .i64 (.ofNat 4), .int .i64 (.ofNat 6)]),
    (2, .cells true 0 [.int .i64 (.ofNat 2), .int .i64 (.ofNat 0), .int .i64 (.ofNat 4)]),
    (3, .cells true 0 [.int .i64 (.ofNat 0), .int .i64 (.ofNat 0), .int .i64 (.negSucc 300), .int .i64 (.ofNat 0)])],
   [],
   .tuple ⟨[.agg ⟨[.int .i64 (.ofNat 0), .int .i64 (.ofNat 0)]⟩, .int .i64 (.ofNat 60)]⟩⟩
theorem vw35_ok : vw35.okS EE.G = true := by kernel_rfl
theorem vw35_run : evT EE vmT 1000000000 (.call vw35.f vw35.args) vw35.heap (keptK vw35) = some (.bool true) := by kernel_rfl
theorem vw35_h : vw35.holds EE := ent_run envOk vmT_holds _ _ vw35_ok vw35_run
-- decani/candle.Dark, 2310 steps
noncomputable def vw48 : Ent :=
  ⟨11, [.agg ⟨[.int .i64 (.ofNat 10), .int .i64 (.ofNat 11), .int .i64 (.ofNat 30), .int .i64 (.ofNat 30), .int .i64 (.ofNat 2), .int .i64 (.ofNat 3), .int .i64 (.ofNat 4), .int .i64 (.ofNat 4), .slice (some ⟨1, 0, none⟩) 3 3, .slice (some ⟨2, 0, none⟩) 1 1, .slice (some ⟨3, 0, none⟩) 1 1]⟩, .int .i64 (.negSucc 0)], 4,
   [(0, .cells false 0 [.int .i64 (.negSucc 300), .int .i64 (.negSucc 300)]),
    (1, .cells true 0 [.int .i64 (.ofNat 4), .int .i64 (.ofNat 3), .int .i64 (.ofNat 4), .int .i64 (.ofNat 2), .int .i64 (.ofNat 6), .int .i64 (.ofNat 3), .int .i64 (.ofNat 5), .int .i64 (.ofNat 5), .int .i64 (.ofNat 2), .int .i64 (.ofNat 6), .int .i64 (.ofNat 6), .int .i64 (.ofNat 4), .int .i64 (.ofNat 6), .int .i64 (.ofNat 4), .int .i64 (.ofNat 6)]),
    (2, .cells true 0 [.int .i64 (.ofNat 2), .int .i64 (.ofNat 0), .int .i64 (.ofNat 4)]),
    (3, .cells true 0 [.int .i64 (.ofNat 0), .int .i64 (.ofNat 0), .int .i64 (.negSucc 300), .int .i64 (.ofNat 0)])],
   [],
   .tuple ⟨[.agg ⟨[.int .i64 (.ofNat 0), .int .i64 (.ofNat 0)]⟩, .int .i64 (.ofNat 60)]⟩⟩
theorem vw48_ok : vw48.okS EE.G = true := by kernel_rfl
theorem vw48_run : evT EE vmT 1000000000 (.call vw48.f vw48.args) vw48.heap (keptK vw48) = some (.bool true) := by kernel_rfl
theorem vw48_h : vw48.holds EE := ent_run envOk vmT_holds _ _ vw48_ok vw48_run
-- decani/candle.Fits, 2280 steps
noncomputable def vw61 : Ent :=
  ⟨15, [.agg ⟨[.int .i64 (.ofNat 10), .int .i64 (.ofNat 11), .int .i64 (.ofNat 30), .int .i64 (.ofNat 30), .int .i64 (.ofNat 2), .int .i64 (.ofNat 3), .int .i64 (.ofNat 4), .int .i64 (.ofNat 4), .slice (some ⟨1, 0, none⟩) 3 3, .slice (some ⟨2, 0, none⟩) 1 1, .slice (some ⟨3, 0, none⟩) 1 1]⟩, .agg ⟨[.int .i64 (.ofNat 0), .int .i64 (.negSucc 0), .int .i64 (.ofNat 0), .int .i64 (.ofNat 0)]⟩], 4,
   [(0, .cells false 0 [.int .i64 (.negSucc 300), .int .i64 (.negSucc 300)]),
    (1, .cells true 0 [.int .i64 (.ofNat 4), .int .i64 (.ofNat 3), .int .i64 (.ofNat 4), .int .i64 (.ofNat 2), .int .i64 (.ofNat 6), .int .i64 (.ofNat 3), .int .i64 (.ofNat 5), .int .i64 (.ofNat 5), .int .i64 (.ofNat 2), .int .i64 (.ofNat 6), .int .i64 (.ofNat 6), .int .i64 (.ofNat 4), .int .i64 (.ofNat 6), .int .i64 (.ofNat 4), .int .i64 (.ofNat 6)]),
    (2, .cells true 0 [.int .i64 (.ofNat 2), .int .i64 (.ofNat 0), .int .i64 (.ofNat 4)]),
    (3, .cells true 0 [.int .i64 (.ofNat 0), .int .i64 (.ofNat 2), .int .i64 (.ofNat 0), .int .i64 (.ofNat 0)])],
   [],
   .tuple ⟨[.bool false, .int .i64 (.ofNat 60)]⟩⟩
theorem vw61_ok : vw61.okS EE.G = true := by kernel_rfl
theorem vw61_run : evT EE vmT 1000000000 (.call vw61.f vw61.args) vw61.heap (keptK vw61) = some (.bool true) := by kernel_rfl
theorem vw61_h : vw61.holds EE := ent_run envOk vmT_holds _ _ vw61_ok vw61_run
-- decani/candle.Wrong, 2163 steps
noncomputable def vw76 : Ent :=
  ⟨16, [.agg ⟨[.int .i64 (.ofNat 10), .int .i64 (.ofNat 11), .int .i64 (.ofNat 30), .int .i64 (.ofNat 30), .int .i64 (.ofNat 2), .int .i64 (.ofNat 3), .int .i64 (.ofNat 4), .int .i64 (.ofNat 4), .slice (some ⟨1, 0, none⟩) 3 3, .slice (some ⟨2, 0, none⟩) 1 1, .slice (some ⟨3, 0, none⟩) 1 1]⟩], 4,
   [(0, .cells false 0 [.int .i64 (.negSucc 300), .int .i64 (.negSucc 300)]),
    (1, .cells true 0 [.int .i64 (.ofNat 4), .int .i64 (.ofNat 3), .int .i64 (.ofNat 4), .int .i64 (.ofNat 2), .int .i64 (.ofNat 6), .int .i64 (.ofNat 3), .int .i64 (.ofNat 5), .int .i64 (.ofNat 5), .int .i64 (.ofNat 2), .int .i64 (.ofNat 6), .int .i64 (.ofNat 6), .int .i64 (.ofNat 4), .int .i64 (.ofNat 6), .int .i64 (.ofNat 4), .int .i64 (.ofNat 6)]),
    (2, .cells true 0 [.int .i64 (.ofNat 2), .int .i64 (.ofNat 0), .int .i64 (.ofNat 4)]),
    (3, .cells true 0 [.int .i64 (.ofNat 0), .int .i64 (.ofNat 2), .int .i64 (.ofNat 0), .int .i64 (.ofNat 0)])],
   [],
   .tuple ⟨[.slice none 0 0, .int .i64 (.ofNat 60)]⟩⟩
theorem vw76_ok : vw76.okS EE.G = true := by kernel_rfl
theorem vw76_run : evT EE vmT 1000000000 (.call vw76.f vw76.args) vw76.heap (keptK vw76) = some (.bool true) := by kernel_rfl
theorem vw76_h : vw76.holds EE := ent_run envOk vmT_holds _ _ vw76_ok vw76_run
-- decani/candle.Life, 2039 steps
noncomputable def vw88 : Ent :=
  ⟨10, [.agg ⟨[.int .i64 (.ofNat 10), .int .i64 (.ofNat 11), .int .i64 (.ofNat 30), .int .i64 (.ofNat 30), .int .i64 (.ofNat 2), .int .i64 (.ofNat 3), .int .i64 (.ofNat 4), .int .i64 (.ofNat 4), .slice (some ⟨1, 0, none⟩) 3 3, .slice (some ⟨2, 0, none⟩) 1 1, .slice none 0 0]⟩, .int .i64 (.negSucc 0)], 3,
   [(0, .cells false 0 [.int .i64 (.negSucc 300), .int .i64 (.negSucc 300)]),
    (1, .cells true 0 [.int .i64 (.ofNat 4), .int .i64 (.ofNat 3), .int .i64 (.ofNat 4), .int .i64 (.ofNat 2), .int .i64 (.ofNat 6), .int .i64 (.ofNat 3), .int .i64 (.ofNat 5), .int .i64 (.ofNat 5), .int .i64 (.ofNat 2), .int .i64 (.ofNat 6), .int .i64 (.ofNat 6), .int .i64 (.ofNat 4), .int .i64 (.ofNat 6), .int .i64 (.ofNat 4), .int .i64 (.ofNat 6)]),
    (2, .cells true 0 [.int .i64 (.ofNat 3), .int .i64 (.ofNat 0), .int .i64 (.ofNat 4)])],
   [],
   .tuple ⟨[.agg ⟨[.int .i64 (.ofNat 0), .int .i64 (.ofNat 0)]⟩, .int .i64 (.ofNat 60)]⟩⟩
theorem vw88_ok : vw88.okS EE.G = true := by kernel_rfl
theorem vw88_run : evT EE vmT 1000000000 (.call vw88.f vw88.args) vw88.heap (keptK vw88) = some (.bool true) := by kernel_rfl
theorem vw88_h : vw88.holds EE := ent_run envOk vmT_holds _ _ vw88_ok vw88_run
-- decani/candle.Left, 974 steps
noncomputable def vw104 : Ent :=
  ⟨9, [.agg ⟨[.int .i64 (.ofNat 10), .int .i64 (.ofNat 11), .int .i64 (.ofNat 30), .int .i64 (.ofNat 30), .int .i64 (.ofNat 2), .int .i64 (.ofNat 3), .int .i64 (.ofNat 4), .int .i64 (.ofNat 4), .slice (some ⟨1, 0, none⟩) 3 3, .slice (some ⟨2, 0, none⟩) 1 1, .slice none 0 0]⟩, .int .i64 (.negSucc 0), .int .i64 (.ofNat 0)], 3,
   [(0, .cells false 0 [.int .i64 (.negSucc 300), .int .i64 (.negSucc 300)]),
    (1, .cells true 0 [.int .i64 (.ofNat 4), .int .i64 (.ofNat 0), .int .i64 (.ofNat 3), .int .i64 (.ofNat 2), .int .i64 (.ofNat 6), .int .i64 (.ofNat 3), .int .i64 (.ofNat 5), .int .i64 (.ofNat 5), .int .i64 (.ofNat 2), .int .i64 (.ofNat 6), .int .i64 (.ofNat 6), .int .i64 (.ofNat 4), .int .i64 (.ofNat 6), .int .i64 (.ofNat 4), .int .i64 (.ofNat 6)]),
    (2, .cells true 0 [.int .i64 (.ofNat 2), .int .i64 (.ofNat 0), .int .i64 (.ofNat 4)])],
   [],
   .tuple ⟨[.agg ⟨[.int .i64 (.ofNat 0), .int .i64 (.ofNat 0)]⟩, .int .i64 (.ofNat 60)]⟩⟩
theorem vw104_ok : vw104.okS EE.G = true := by kernel_rfl
theorem vw104_run : evT EE vmT 1000000000 (.call vw104.f vw104.args) vw104.heap (keptK vw104) = some (.bool true) := by kernel_rfl
theorem vw104_h : vw104.holds EE := ent_run envOk vmT_holds _ _ vw104_ok vw104_run
-- decani/candle.Wrong, 794 steps
noncomputable def vw121 : Ent :=
  ⟨16, [.agg ⟨[.int .i64 (.ofNat 10), .int .i64 (.ofNat 11), .int .i64 (.ofNat 30), .int .i64 (.ofNat 30), .int .i64 (.ofNat 2), .int .i64 (.ofNat 3), .int .i64 (.ofNat 4), .int .i64 (.ofNat 4), .slice (some ⟨1, 0, none⟩) 3 3, .slice (some ⟨2, 0, none⟩) 1 1, .slice none 0 0]⟩], 3,
   [(0, .cells false 0 [.int .i64 (.negSucc 300), .int .i64 (.negSucc 300)]),
    (1, .cells true 0 [.int .i64 (.ofNat 7), .int .i64 (.ofNat 3), .int .i64 (.ofNat 4), .int .i64 (.ofNat 2), .int .i64 (.ofNat 6), .int .i64 (.ofNat 3), .int .i64 (.ofNat 5), .int .i64 (.ofNat 5), .int .i64 (.ofNat 2), .int .i64 (.ofNat 6), .int .i64 (.ofNat 6), .int .i64 (.ofNat 4), .int .i64 (.ofNat 6), .int .i64 (.ofNat 4), .int .i64 (.ofNat 6)]),
    (2, .cells true 0 [.int .i64 (.ofNat 2), .int .i64 (.ofNat 0), .int .i64 (.ofNat 4)])],
   [],
   .tuple ⟨[.slice none 0 0, .int .i64 (.ofNat 60)]⟩⟩
theorem vw121_ok : vw121.okS EE.G = true := by kernel_rfl
theorem vw121_run : evT EE vmT 1000000000 (.call vw121.f vw121.args) vw121.heap (keptK vw121) = some (.bool true) := by kernel_rfl
theorem vw121_h : vw121.holds EE := ent_run envOk vmT_holds _ _ vw121_ok vw121_run
-- decani/candle.Surely, 627 steps
noncomputable def vw137 : Ent :=
  ⟨13, [.agg ⟨[.int .i64 (.ofNat 10), .int .i64 (.ofNat 11), .int .i64 (.ofNat 30), .int .i64 (.ofNat 30), .int .i64 (.ofNat 2), .int .i64 (.ofNat 4), .int .i64 (.ofNat 4), .int .i64 (.ofNat 4), .slice (some ⟨1, 0, none⟩) 3 3, .slice (some ⟨2, 0, none⟩) 1 1, .slice none 0 0]⟩, .int .i64 (.negSucc 0)], 3,
   [(0, .cells false 0 [.int .i64 (.negSucc 300), .int .i64 (.negSucc 300)]),
    (1, .cells true 0 [.int .i64 (.ofNat 4), .int .i64 (.ofNat 3), .int .i64 (.ofNat 4), .int .i64 (.ofNat 2), .int .i64 (.ofNat 6), .int .i64 (.ofNat 3), .int .i64 (.ofNat 5), .int .i64 (.ofNat 5), .int .i64 (.ofNat 2), .int .i64 (.ofNat 6), .int .i64 (.ofNat 6), .int .i64 (.ofNat 4), .int .i64 (.ofNat 6), .int .i64 (.ofNat 4), .int .i64 (.ofNat 6)]),
    (2, .cells true 0 [.int .i64 (.ofNat 2), .int .i64 (.ofNat 0), .int .i64 (.ofNat 4)])],
   [],
   .tuple ⟨[.int .i64 (.ofNat 0), .int .i64 (.ofNat 60)]⟩⟩
theorem vw137_ok : vw137.okS EE.G = true := by kernel_rfl
theorem vw137_run : evT EE vmT 1000000000 (.call vw137.f vw137.args) vw137.heap (keptK vw137) = some (.bool true) := by kernel_rfl
theorem vw137_h : vw137.holds EE := ent_run envOk vmT_holds _ _ vw137_ok vw137_run
-- decani/candle.Wrong, 273 steps
noncomputable def vw157 : Ent :=
  ⟨16, [.agg ⟨[.int .i64 (.ofNat 10), .int .i64 (.ofNat 13), .int .i64 (.ofNat 30), .int .i64 (.ofNat 30), .int .i64 (.ofNat 2), .int .i64 (.ofNat 3), .int .i64 (.ofNat 4), .int .i64 (.ofNat 4), .slice (some ⟨1, 0, none⟩) 3 3, .slice (some ⟨2, 0, none⟩) 1 1, .slice none 0 0]⟩], 3,
   [(0, .cells false 0 [.int .i64 (.negSucc 300), .int .i64 (.negSucc 300)]),
    (1, .cells true 0 [.int .i64 (.ofNat 4), .int .i64 (.ofNat 3), .int .i64 (.ofNat 4), .int .i64 (.ofNat 2), .int .i64 (.ofNat 6), .int .i64 (.ofNat 3), .int .i64 (.ofNat 5), .int .i64 (.ofNat 5), .int .i64 (.ofNat 2), .int .i64 (.ofNat 6), .int .i64 (.ofNat 6), .int .i64 (.ofNat 4), .int .i64 (.ofNat 6), .int .i64 (.ofNat 4), .int .i64 (.ofNat 6)]),
    (2, .cells true 0 [.int .i64 (.ofNat 2), .int .i64 (.ofNat 0), .int .i64 (.ofNat 4)])],
   [],
   .tuple ⟨[.slice none 0 0, .int .i64 (.ofNat 60)]⟩⟩
theorem vw157_ok : vw157.okS EE.G = true := by kernel_rfl
theorem vw157_run : evT EE vmT 1000000000 (.call vw157.f vw157.args) vw157.heap (keptK vw157) = some (.bool true) := by kernel_rfl
theorem vw157_h : vw157.holds EE := ent_run envOk vmT_holds _ _ vw157_ok vw157_run
-- decani/candle.Fits, 213 steps
noncomputable def vw164 : Ent :=
  ⟨15, [.agg ⟨[.int .i64 (.ofNat 10), .int .i64 (.ofNat 11), .int .i64 (.ofNat 30), .int .i64 (.ofNat 30), .int .i64 (.ofNat 2), .int .i64 (.ofNat 3), .int .i64 (.ofNat 4), .int .i64 (.ofNat 4), .slice (some ⟨1, 0, none⟩) 3 3, .slice (some ⟨2, 0, none⟩) 5 5, .slice none 0 0]⟩, .agg ⟨[.int .i64 (.ofNat 0), .int .i64 (.negSucc 0), .int .i64 (.ofNat 0), .int .i64 (.ofNat 0)]⟩], 3,
   [(0, .cells false 0 [.int .i64 (.negSucc 300), .int .i64 (.negSucc 300)]),
    (1, .cells true 0 [.int .i64 (.ofNat 4), .int .i64 (.ofNat 3), .int .i64 (.ofNat 4), .int .i64 (.ofNat 2), .int .i64 (.ofNat 6), .int .i64 (.ofNat 3), .int .i64 (.ofNat 5), .int .i64 (.ofNat 5), .int .i64 (.ofNat 2), .int .i64 (.ofNat 6), .int .i64 (.ofNat 6), .int .i64 (.ofNat 4), .int .i64 (.ofNat 6), .int .i64 (.ofNat 4), .int .i64 (.ofNat 6)]),
    (2, .cells true 0 [.int .i64 (.ofNat 0), .int .i64 (.ofNat 0), .int .i64 (.ofNat 0), .int .i64 (.ofNat 0), .int .i64 (.ofNat 0), .int .i64 (.ofNat 0), .int .i64 (.ofNat 0), .int .i64 (.ofNat 0), .int .i64 (.ofNat 0), .int .i64 (.ofNat 0), .int .i64 (.ofNat 0), .int .i64 (.ofNat 0), .int .i64 (.ofNat 0), .int .i64 (.ofNat 0), .int .i64 (.ofNat 0)])],
   [],
   .tuple ⟨[.bool false, .int .i64 (.ofNat 60)]⟩⟩
theorem vw164_ok : vw164.okS EE.G = true := by kernel_rfl
theorem vw164_run : evT EE vmT 1000000000 (.call vw164.f vw164.args) vw164.heap (keptK vw164) = some (.bool true) := by kernel_rfl
theorem vw164_h : vw164.holds EE := ent_run envOk vmT_holds _ _ vw164_ok vw164_run
-- decani/candle.Short, 179 steps
noncomputable def vw180 : Ent :=
  ⟨12, [.agg ⟨[.int .i64 (.ofNat 10), .int .i64 (.ofNat 11), .int .i64 (.ofNat 30), .int .i64 (.ofNat 30), .int .i64 (.ofNat 2), .int .i64 (.ofNat 3), .int .i64 (.ofNat 4), .int .i64 (.ofNat 4), .slice (some ⟨1, 0, none⟩) 6 18446744073709551616, .slice (some ⟨2, 0, none⟩) 1 1, .slice none 0 0]⟩, .int .i64 (.negSucc 0)], 3,
   [(0, .cells false 0 [.int .i64 (.negSucc 300), .int .i64 (.negSucc 300)]),
    (1, .cells true 6 [.int .i64 (.ofNat 4), .int .i64 (.ofNat 3), .int .i64 (.ofNat 4), .int .i64 (.ofNat 2), .int .i64 (.ofNat 6), .int .i64 (.ofNat 3), .int .i64 (.ofNat 5), .int .i64 (.ofNat 5), .int .i64 (.ofNat 2), .int .i64 (.ofNat 6), .int .i64 (.ofNat 6), .int .i64 (.ofNat 4), .int .i64 (.ofNat 6), .int .i64 (.ofNat 4), .int .i64 (.ofNat 6), .int .i64 (.ofNat 4), .int .i64 (.ofNat 3), .int .i64 (.ofNat 4), .int .i64 (.ofNat 2), .int .i64 (.ofNat 6), .int .i64 (.ofNat 3), .int .i64 (.ofNat 5), .int .i64 (.ofNat 5), .int .i64 (.ofNat 2), .int .i64 (.ofNat 6), .int .i64 (.ofNat 6), .int .i64 (.ofNat 4), .int .i64 (.ofNat 6), .int .i64 (.ofNat 4), .int .i64 (.ofNat 6)]),
    (2, .cells true 0 [.int .i64 (.ofNat 2), .int .i64 (.ofNat 0), .int .i64 (.ofNat 4)])],
   [],
   .tuple ⟨[.int .i64 (.ofNat 0), .int .i64 (.ofNat 60)]⟩⟩
theorem vw180_ok : vw180.okS EE.G = true := by kernel_rfl
theorem vw180_run : evT EE vmT 1000000000 (.call vw180.f vw180.args) vw180.heap (keptK vw180) = some (.bool true) := by kernel_rfl
theorem vw180_h : vw180.holds EE := ent_run envOk vmT_holds _ _ vw180_ok vw180_run
end Go.Proofs.YtahphmhiehimiaaDoor
