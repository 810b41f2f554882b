/- Known calls, part 15: what single calls hand back, at small heaps, by the kernel's own run of the evaluator. No conditions. -/
import Derived.Test.YtahphmhiehimiaaDoorVMT
set_option linter.all false
namespace Go.Proofs.YtahphmhiehimiaaDoor
open Go.Ai
set_option maxRecDepth 1000000
-- decani/candle.Left, 17914 steps
noncomputable def vw15 : Ent :=
  ⟨9, [.agg ⟨[.int .i64 (.ofNat 10), .int .i64 (.ofNat 11), .int .i64 (.ofNat 30), .int .i64 (.ofNat 30), .int .i64 (.ofNat 2), .int .i64 (.ofNat 3), .int .i64 (.ofNat 4), .int .i64 (.ofNat 4), .slice (some ⟨1, 0, none⟩) 3 3, .slice (some ⟨2, 0, none⟩) 1 1, .slice (some ⟨3, 0, none⟩) 1 1]⟩, .int .i64 (.ofNat 0), .int .i64 (.ofNat 2)], 4,
   [(0, .cells false 0 [.int .i64 (.negSucc 300), .int .i64 (.negSucc 300)]),
    (1, .cells true 0 [.int .i64 (.ofNat 4), .int .i64 (.ofNat 3), .int .i64 (.ofNat 4), .int .i64 (.ofNat 2), .int .i64 (.ofNat 6), .int .i64 (.ofNat 3), .int .i64 (.ofNat 5), .int .i64 (.ofNat 5), .int .i64 (.ofNat 2), .int .i64 (.ofNat 6), .int .i64 (.ofNat 6), .int .i64 (.ofNat 4), .int .i64 (.ofNat 6), .int .i64 (.ofNat 4), .int .i64 (.ofNat 6)]),
    (2, .cells true 0 [.int .i64 (.ofNat 2), .int .i64 (.ofNat 0), .int .i64 (.ofNat 4)]),
    (3, .cells true 0 [.int .i64 (.ofNat 0), .int .i64 (.ofNat 0), .int .i64 (.ofNat 8), .int .i64 (.ofNat 0)])],
   [],
   .tuple ⟨[.agg ⟨[.int .i64 (.ofNat 2), .int .i64 (.ofNat 2)]⟩, .int .i64 (.ofNat 0)]⟩⟩
theorem vw15_ok : vw15.okS EE.G = true := by kernel_rfl
theorem vw15_run : evT EE vmT 1000000000 (.call vw15.f vw15.args) vw15.heap (keptK vw15) = some (.bool true) := by kernel_rfl
theorem vw15_h : vw15.holds EE := ent_run envOk vmT_holds _ _ vw15_ok vw15_run
-- decani/candle.Right, 11266 steps
noncomputable def vw22 : Ent :=
  ⟨8, [.agg ⟨[.int .i64 (.ofNat 10), .int .i64 (.ofNat 11), .int .i64 (.ofNat 30), .int .i64 (.ofNat 30), .int .i64 (.ofNat 2), .int .i64 (.ofNat 3), .int .i64 (.ofNat 4), .int .i64 (.ofNat 4), .slice (some ⟨1, 0, none⟩) 3 3, .slice (some ⟨2, 0, none⟩) 1 1, .slice (some ⟨3, 0, none⟩) 2 2]⟩], 4,
   [(0, .cells false 0 [.int .i64 (.negSucc 300), .int .i64 (.negSucc 300)]),
    (1, .cells true 0 [.int .i64 (.ofNat 4), .int .i64 (.ofNat 3), .int .i64 (.ofNat 4), .int .i64 (.ofNat 2), .int .i64 (.ofNat 6), .int .i64 (.ofNat 3), .int .i64 (.ofNat 5), .int .i64 (.ofNat 5), .int .i64 (.ofNat 2), .int .i64 (.ofNat 6), .int .i64 (.ofNat 6), .int .i64 (.ofNat 4), .int .i64 (.ofNat 6), .int .i64 (.ofNat 4), .int .i64 (.ofNat 6)]),
    (2, .cells true 0 [.int .i64 (.ofNat 2), .int .i64 (.ofNat 0), .int .i64 (.ofNat 4)]),
    (3, .cells true 0 [.int .i64 (.ofNat 0), .int .i64 (.ofNat 0), .int .i64 (.ofNat 8), .int .i64 (.ofNat 0), .int .i64 (.ofNat 1), .int .i64 (.ofNat 0), .int .i64 (.ofNat 3), .int .i64 (.ofNat 0)])],
   [],
   .tuple ⟨[.bool false, .int .i64 (.ofNat 0)]⟩⟩
theorem vw22_ok : vw22.okS EE.G = true := by kernel_rfl
theorem vw22_run : evT EE vmT 1000000000 (.call vw22.f vw22.args) vw22.heap (keptK vw22) = some (.bool true) := by kernel_rfl
theorem vw22_h : vw22.holds EE := ent_run envOk vmT_holds _ _ vw22_ok vw22_run
-- decani/candle.Fits, 2652 steps
noncomputable def vw25 : Ent :=
  ⟨15, [.agg ⟨[.int .i64 (.ofNat 10), .int .i64 (.ofNat 11), .int .i64 (.ofNat 30), .int .i64 (.ofNat 30), .int .i64 (.ofNat 2), .int .i64 (.ofNat 3), .int .i64 (.ofNat 4), .int .i64 (.ofNat 4), .slice (some ⟨1, 0, none⟩) 3 3, .slice (some ⟨2, 0, none⟩) 1 1, .slice (some ⟨3, 0, none⟩) 2 2]⟩, .agg ⟨[.int .i64 (.ofNat 0), .int .i64 (.ofNat 0), .int .i64 (.ofNat 0), .int .i64 (.ofNat 6)]⟩], 4,
   [(0, .cells false 0 [.int .i64 (.negSucc 300), .int .i64 (.negSucc 300)]),
    (1, .cells true 0 [.int .i64 (.ofNat 4), .int .i64 (.ofNat 3), .int .i64 (.ofNat 4), .int .i64 (.ofNat 2), .int .i64 (.ofNat 6), .int .i64 (.ofNat 3), .int .i64 (.ofNat 5), .int .i64 (.ofNat 5), .int .i64 (.ofNat 2), .int .i64 (.ofNat 6), .int .i64 (.ofNat 6), .int .i64 (.ofNat 4), .int .i64 (.ofNat 6), .int .i64 (.ofNat 4), .int .i64 (.ofNat 6)]),
    (2, .cells true 0 [.int .i64 (.ofNat 2), .int .i64 (.ofNat 0), .int .i64 (.ofNat 4)]),
    (3, .cells true 0 [.int .i64 (.ofNat 0), .int .i64 (.ofNat 0), .int .i64 (.ofNat 8), .int .i64 (.ofNat 0), .int .i64 (.ofNat 1), .int .i64 (.ofNat 0), .int .i64 (.ofNat 3), .int .i64 (.ofNat 0)])],
   [],
   .tuple ⟨[.bool false, .int .i64 (.ofNat 61)]⟩⟩
theorem vw25_ok : vw25.okS EE.G = true := by kernel_rfl
theorem vw25_run : evT EE vmT 1000000000 (.call vw25.f vw25.args) vw25.heap (keptK vw25) = some (.bool true) := by kernel_rfl
theorem vw25_h : vw25.holds EE := ent_run envOk vmT_holds _ _ vw25_ok vw25_run
-- decani/candle.Dark, 2558 steps
noncomputable def vw29 : Ent :=
  ⟨11, [.agg ⟨[.int .i64 (.ofNat 10), .int .i64 (.ofNat 11), .int .i64 (.ofNat 30), .int .i64 (.ofNat 30), .int .i64 (.ofNat 2), .int .i64 (.ofNat 3), .int .i64 (.ofNat 4), .int .i64 (.ofNat 4), .slice (some ⟨1, 0, none⟩) 3 3, .slice (some ⟨2, 0, none⟩) 1 1, .slice (some ⟨3, 0, none⟩) 2 2]⟩, .int .i64 (.ofNat 3)], 4,
   [(0, .cells false 0 [.int .i64 (.negSucc 300), .int .i64 (.negSucc 300)]),
    (1, .cells true 0 [.int .i64 (.ofNat 4), .int .i64 (.ofNat 3), .int .i64 (.ofNat 4), .int .i64 (.ofNat 2), .int .i64 (.ofNat 6), .int .i64 (.ofNat 3), .int .i64 (.ofNat 5), .int .i64 (.ofNat 5), .int .i64 (.ofNat 2), .int .i64 (.ofNat 6), .int .i64 (.ofNat 6), .int .i64 (.ofNat 4), .int .i64 (.ofNat 6), .int .i64 (.ofNat 4), .int .i64 (.ofNat 6)]),
    (2, .cells true 0 [.int .i64 (.ofNat 2), .int .i64 (.ofNat 0), .int .i64 (.ofNat 4)]),
    (3, .cells true 0 [.int .i64 (.ofNat 0), .int .i64 (.ofNat 0), .int .i64 (.ofNat 8), .int .i64 (.ofNat 0), .int .i64 (.ofNat 1), .int .i64 (.ofNat 0), .int .i64 (.ofNat 3), .int .i64 (.ofNat 0)])],
   [],
   .tuple ⟨[.agg ⟨[.int .i64 (.ofNat 0), .int .i64 (.ofNat 0)]⟩, .int .i64 (.ofNat 61)]⟩⟩
theorem vw29_ok : vw29.okS EE.G = true := by kernel_rfl
theorem vw29_run : evT EE vmT 1000000000 (.call vw29.f vw29.args) vw29.heap (keptK vw29) = some (.bool true) := by kernel_rfl
theorem vw29_h : vw29.holds EE := ent_run envOk vmT_holds _ _ vw29_ok vw29_run
-- decani/candle.Left, 2346 steps
noncomputable def vw34 : Ent :=
  ⟨9, [.agg ⟨[.int .i64 (.ofNat 10), .int .i64 (.ofNat 11), .int .i64 (.ofNat 30), .int .i64 (.ofNat 30), .int .i64 (.ofNat 2), .int .i64 (.ofNat 3), .int .i64 (.ofNat 4), .int .i64 (.ofNat 4), .slice (some ⟨1, 0, none⟩) 3 3, .slice (some ⟨2, 0, none⟩) 1 1, .slice (some ⟨3, 0, none⟩) 1 1]⟩, .int .i64 (.negSucc 0), .int .i64 (.ofNat 0)], 4,
   [(0, .cells false 0 [.int .i64 (.negSucc 300), .int .i64 (.negSucc 300)]),
    (1, .cells true 0 [.int .i64 (.ofNat 4), .int .i64 (.ofNat 3), .int .i64 (.ofNat 4), .int .i64 (.ofNat 2), .int .i64 (.ofNat 6), .int .i64 (.ofNat 3), .int .i64 (.ofNat 5), .int .i64 (.ofNat 5), .int .i64 (.ofNat 2), .int .i64 (.ofNat 6), .int .i64 (.ofNat 6), .int .i64 (.ofNat 4), .int .i64 (.ofNat 6), .int .i64 (.ofNat 4), .int .i64 (.ofNat 6)]),
    (2, .cells true 0 [.int .i64 (.ofNat 2), .int .i64 (.ofNat 0), .int .i64 (.ofNat 4)]),
    (3, .cells true 0 [.int .i64 (.ofNat 0), .int .i64 (.ofNat 0), .int .i64 (.ofNat 301), .int .i64 (.ofNat 0)])],
   [],
   .tuple ⟨[.agg ⟨[.int .i64 (.ofNat 0), .int .i64 (.ofNat 0)]⟩, .int .i64 (.ofNat 60)]⟩⟩
theorem vw34_ok : vw34.okS EE.G = true := by kernel_rfl
theorem vw34_run : evT EE vmT 1000000000 (.call vw34.f vw34.args) vw34.heap (keptK vw34) = some (.bool true) := by kernel_rfl
theorem vw34_h : vw34.holds EE := ent_run envOk vmT_holds _ _ vw34_ok vw34_run
-- decani/candle.Buy, 2311 steps
noncomputable def vw46 : Ent :=
  ⟨14, [.agg ⟨[.int .i64 (.ofNat 10), .int .i64 (.ofNat 11), .int .i64 (.ofNat 30), .int .i64 (.ofNat 30), .int .i64 (.ofNat 2), .int .i64 (.ofNat 3), .int .i64 (.ofNat 4), .int .i64 (.ofNat 4), .slice (some ⟨1, 0, none⟩) 3 3, .slice (some ⟨2, 0, none⟩) 1 1, .slice (some ⟨3, 0, none⟩) 1 1]⟩, .int .i64 (.negSucc 0), .int .i64 (.ofNat 0)], 4,
   [(0, .cells false 0 [.int .i64 (.negSucc 300), .int .i64 (.negSucc 300)]),
    (1, .cells true 0 [.int .i64 (.ofNat 4), .int .i64 (.ofNat 3), .int .i64 (.ofNat 4), .int .i64 (.ofNat 2), .int .i64 (.ofNat 6), .int .i64 (.ofNat 3), .int .i64 (.ofNat 5), .int .i64 (.ofNat 5), .int .i64 (.ofNat 2), .int .i64 (.ofNat 6), .int .i64 (.ofNat 6), .int .i64 (.ofNat 4), .int .i64 (.ofNat 6), .int .i64 (.ofNat 4), .int .i64 (.ofNat 6)]),
    (2, .cells true 0 [.int .i64 (.ofNat 2), .int .i64 (.ofNat 0), .int .i64 (.ofNat 4)]),
    (3, .cells true 0 [.int .i64 (.ofNat 0), .int .i64 (.ofNat 0), .int .i64 (.negSucc 300), .int .i64 (.ofNat 0)])],
   [],
   .tuple ⟨[.int .i64 (.ofNat 0), .int .i64 (.ofNat 60)]⟩⟩
theorem vw46_ok : vw46.okS EE.G = true := by kernel_rfl
theorem vw46_run : evT EE vmT 1000000000 (.call vw46.f vw46.args) vw46.heap (keptK vw46) = some (.bool true) := by kernel_rfl
theorem vw46_h : vw46.holds EE := ent_run envOk vmT_holds _ _ vw46_ok vw46_run
-- decani/candle.Short, 2281 steps
noncomputable def vw59 : Ent :=
  ⟨12, [.agg ⟨[.int .i64 (.ofNat 10), .int .i64 (.ofNat 11), .int .i64 (.ofNat 30), .int .i64 (.ofNat 30), .int .i64 (.ofNat 2), .int .i64 (.ofNat 3), .int .i64 (.ofNat 4), .int .i64 (.ofNat 4), .slice (some ⟨1, 0, none⟩) 3 3, .slice (some ⟨2, 0, none⟩) 1 1, .slice (some ⟨3, 0, none⟩) 1 1]⟩, .int .i64 (.negSucc 0)], 4,
   [(0, .cells false 0 [.int .i64 (.negSucc 300), .int .i64 (.negSucc 300)]),
    (1, .cells true 0 [.int .i64 (.ofNat 4), .int .i64 (.ofNat 3), .int .i64 (.ofNat 4), .int .i64 (.ofNat 2), .int .i64 (.ofNat 6), .int .i64 (.ofNat 3), .int .i64 (.ofNat 5), .int .i64 (.ofNat 5), .int .i64 (.ofNat 2), .int .i64 (.ofNat 6), .int .i64 (.ofNat 6), .int .i64 (.ofNat 4), .int .i64 (.ofNat 6), .int .i64 (.ofNat 4), .int .i64 (.ofNat 6)]),
    (2, .cells true 0 [.int .i64 (.ofNat 2), .int .i64 (.ofNat 0), .int .i64 (.ofNat 4)]),
    (3, .cells true 0 [.int .i64 (.ofNat 3), .int .i64 (.ofNat 0), .int .i64 (.ofNat 0), .int .i64 (.ofNat 0)])],
   [],
   .tuple ⟨[.int .i64 (.ofNat 0), .int .i64 (.ofNat 60)]⟩⟩
theorem vw59_ok : vw59.okS EE.G = true := by kernel_rfl
theorem vw59_run : evT EE vmT 1000000000 (.call vw59.f vw59.args) vw59.heap (keptK vw59) = some (.bool true) := by kernel_rfl
theorem vw59_h : vw59.holds EE := ent_run envOk vmT_holds _ _ vw59_ok vw59_run
-- decani/candle.Right, 2198 steps
noncomputable def vw73 : Ent :=
  ⟨8, [.agg ⟨[.int .i64 (.ofNat 10), .int .i64 (.ofNat 11), .int .i64 (.ofNat 30), .int .i64 (.ofNat 30), .int .i64 (.ofNat 2), .int .i64 (.ofNat 3), .int .i64 (.ofNat 4), .int .i64 (.ofNat 4), .slice (some ⟨1, 0, none⟩) 3 3, .slice (some ⟨2, 0, none⟩) 1 1, .slice (some ⟨3, 0, none⟩) 1 1]⟩], 4,
   [(0, .cells false 0 [.int .i64 (.negSucc 300), .int .i64 (.negSucc 300)]),
    (1, .cells true 0 [.int .i64 (.ofNat 4), .int .i64 (.ofNat 3), .int .i64 (.ofNat 4), .int .i64 (.ofNat 2), .int .i64 (.ofNat 6), .int .i64 (.ofNat 3), .int .i64 (.ofNat 5), .int .i64 (.ofNat 5), .int .i64 (.ofNat 2), .int .i64 (.ofNat 6), .int .i64 (.ofNat 6), .int .i64 (.ofNat 4), .int .i64 (.ofNat 6), .int .i64 (.ofNat 4), .int .i64 (.ofNat 6)]),
    (2, .cells true 0 [.int .i64 (.ofNat 2), .int .i64 (.ofNat 0), .int .i64 (.ofNat 4)]),
    (3, .cells true 0 [.int .i64 (.ofNat 3), .int .i64 (.ofNat 0), .int .i64 (.ofNat 0), .int .i64 (.ofNat 0)])],
   [],
   .tuple ⟨[.bool false, .int .i64 (.ofNat 60)]⟩⟩
theorem vw73_ok : vw73.okS EE.G = true := by kernel_rfl
theorem vw73_run : evT EE vmT 1000000000 (.call vw73.f vw73.args) vw73.heap (keptK vw73) = some (.bool true) := by kernel_rfl
theorem vw73_h : vw73.holds EE := ent_run envOk vmT_holds _ _ vw73_ok vw73_run
-- decani/candle.Short, 2034 steps
noncomputable def vw89 : Ent :=
  ⟨12, [.agg ⟨[.int .i64 (.ofNat 10), .int .i64 (.ofNat 11), .int .i64 (.ofNat 30), .int .i64 (.ofNat 30), .int .i64 (.ofNat 2), .int .i64 (.ofNat 3), .int .i64 (.ofNat 4), .int .i64 (.ofNat 4), .slice (some ⟨1, 0, none⟩) 3 3, .slice (some ⟨2, 0, none⟩) 1 1, .slice none 0 0]⟩, .int .i64 (.negSucc 0)], 3,
   [(0, .cells false 0 [.int .i64 (.negSucc 300), .int .i64 (.negSucc 300)]),
    (1, .cells true 0 [.int .i64 (.ofNat 4), .int .i64 (.ofNat 3), .int .i64 (.ofNat 4), .int .i64 (.ofNat 2), .int .i64 (.ofNat 6), .int .i64 (.ofNat 3), .int .i64 (.ofNat 5), .int .i64 (.ofNat 5), .int .i64 (.ofNat 2), .int .i64 (.ofNat 6), .int .i64 (.ofNat 6), .int .i64 (.ofNat 4), .int .i64 (.ofNat 6), .int .i64 (.ofNat 4), .int .i64 (.ofNat 6)]),
    (2, .cells true 0 [.int .i64 (.ofNat 3), .int .i64 (.ofNat 0), .int .i64 (.ofNat 4)])],
   [],
   .tuple ⟨[.int .i64 (.ofNat 0), .int .i64 (.ofNat 60)]⟩⟩
theorem vw89_ok : vw89.okS EE.G = true := by kernel_rfl
theorem vw89_run : evT EE vmT 1000000000 (.call vw89.f vw89.args) vw89.heap (keptK vw89) = some (.bool true) := by kernel_rfl
theorem vw89_h : vw89.holds EE := ent_run envOk vmT_holds _ _ vw89_ok vw89_run
-- decani/candle.Right, 1035 steps
noncomputable def vw102 : Ent :=
  ⟨8, [.agg ⟨[.int .i64 (.ofNat 10), .int .i64 (.ofNat 11), .int .i64 (.ofNat 30), .int .i64 (.ofNat 30), .int .i64 (.ofNat 2), .int .i64 (.ofNat 3), .int .i64 (.ofNat 4), .int .i64 (.ofNat 4), .slice (some ⟨1, 0, none⟩) 3 3, .slice (some ⟨2, 0, none⟩) 1 1, .slice none 0 0]⟩], 3,
   [(0, .cells false 0 [.int .i64 (.negSucc 300), .int .i64 (.negSucc 300)]),
    (1, .cells true 0 [.int .i64 (.ofNat 4), .int .i64 (.ofNat 3), .int .i64 (.ofNat 4), .int .i64 (.ofNat 2), .int .i64 (.ofNat 10), .int .i64 (.ofNat 3), .int .i64 (.ofNat 5), .int .i64 (.ofNat 5), .int .i64 (.ofNat 2), .int .i64 (.ofNat 6), .int .i64 (.ofNat 6), .int .i64 (.ofNat 4), .int .i64 (.ofNat 6), .int .i64 (.ofNat 4), .int .i64 (.ofNat 6)]),
    (2, .cells true 0 [.int .i64 (.ofNat 2), .int .i64 (.ofNat 0), .int .i64 (.ofNat 4)])],
   [],
   .tuple ⟨[.bool false, .int .i64 (.ofNat 60)]⟩⟩
theorem vw102_ok : vw102.okS EE.G = true := by kernel_rfl
theorem vw102_run : evT EE vmT 1000000000 (.call vw102.f vw102.args) vw102.heap (keptK vw102) = some (.bool true) := by kernel_rfl
theorem vw102_h : vw102.holds EE := ent_run envOk vmT_holds _ _ vw102_ok vw102_run
-- decani/candle.Life, 740 steps
noncomputable def vw126 : Ent :=
  ⟨10, [.agg ⟨[.int .i64 (.ofNat 10), .int .i64 (.ofNat 11), .int .i64 (.ofNat 30), .int .i64 (.ofNat 30), .int .i64 (.ofNat 2), .int .i64 (.ofNat 3), .int .i64 (.ofNat 0), .int .i64 (.ofNat 0), .slice (some ⟨1, 0, none⟩) 3 3, .slice (some ⟨2, 0, none⟩) 1 1, .slice none 0 0]⟩, .int .i64 (.negSucc 0)], 3,
   [(0, .cells false 0 [.int .i64 (.negSucc 300), .int .i64 (.negSucc 300)]),
    (1, .cells true 0 [.int .i64 (.ofNat 4), .int .i64 (.ofNat 3), .int .i64 (.ofNat 4), .int .i64 (.ofNat 2), .int .i64 (.ofNat 6), .int .i64 (.ofNat 3), .int .i64 (.ofNat 5), .int .i64 (.ofNat 5), .int .i64 (.ofNat 2), .int .i64 (.ofNat 6), .int .i64 (.ofNat 6), .int .i64 (.ofNat 4), .int .i64 (.ofNat 6), .int .i64 (.ofNat 4), .int .i64 (.ofNat 6)]),
    (2, .cells true 0 [.int .i64 (.ofNat 2), .int .i64 (.ofNat 0), .int .i64 (.ofNat 4)])],
   [],
   .tuple ⟨[.agg ⟨[.int .i64 (.ofNat 0), .int .i64 (.ofNat 0)]⟩, .int .i64 (.ofNat 60)]⟩⟩
theorem vw126_ok : vw126.okS EE.G = true := by kernel_rfl
theorem vw126_run : evT EE vmT 1000000000 (.call vw126.f vw126.args) vw126.heap (keptK vw126) = some (.bool true) := by kernel_rfl
theorem vw126_h : vw126.holds EE := ent_run envOk vmT_holds _ _ vw126_ok vw126_run
-- decani/candle.Wrong, 544 steps
noncomputable def vw139 : Ent :=
  ⟨16, [.agg ⟨[.int .i64 (.ofNat 10), .int .i64 (.ofNat 11), .int .i64 (.ofNat 30), .int .i64 (.ofNat 30), .int .i64 (.ofNat 2), .int .i64 (.ofNat 4), .int .i64 (.ofNat 4), .int .i64 (.ofNat 4), .slice (some ⟨1, 0, none⟩) 3 3, .slice (some ⟨2, 0, none⟩) 1 1, .slice none 0 0]⟩], 3,
   [(0, .cells false 0 [.int .i64 (.negSucc 300), .int .i64 (.negSucc 300)]),
    (1, .cells true 0 [.int .i64 (.ofNat 4), .int .i64 (.ofNat 3), .int .i64 (.ofNat 4), .int .i64 (.ofNat 2), .int .i64 (.ofNat 6), .int .i64 (.ofNat 3), .int .i64 (.ofNat 5), .int .i64 (.ofNat 5), .int .i64 (.ofNat 2), .int .i64 (.ofNat 6), .int .i64 (.ofNat 6), .int .i64 (.ofNat 4), .int .i64 (.ofNat 6), .int .i64 (.ofNat 4), .int .i64 (.ofNat 6)]),
    (2, .cells true 0 [.int .i64 (.ofNat 2), .int .i64 (.ofNat 0), .int .i64 (.ofNat 4)])],
   [],
   .tuple ⟨[.slice none 0 0, .int .i64 (.ofNat 60)]⟩⟩
theorem vw139_ok : vw139.okS EE.G = true := by kernel_rfl
theorem vw139_run : evT EE vmT 1000000000 (.call vw139.f vw139.args) vw139.heap (keptK vw139) = some (.bool true) := by kernel_rfl
theorem vw139_h : vw139.holds EE := ent_run envOk vmT_holds _ _ vw139_ok vw139_run
-- decani/candle.Buy, 368 steps
noncomputable def vw151 : Ent :=
  ⟨14, [.agg ⟨[.int .i64 (.ofNat 10), .int .i64 (.ofNat 13), .int .i64 (.ofNat 30), .int .i64 (.ofNat 30), .int .i64 (.ofNat 2), .int .i64 (.ofNat 3), .int .i64 (.ofNat 4), .int .i64 (.ofNat 4), .slice (some ⟨1, 0, none⟩) 3 3, .slice (some ⟨2, 0, none⟩) 1 1, .slice none 0 0]⟩, .int .i64 (.negSucc 0), .int .i64 (.ofNat 0)], 3,
   [(0, .cells false 0 [.int .i64 (.negSucc 300), .int .i64 (.negSucc 300)]),
    (1, .cells true 0 [.int .i64 (.ofNat 4), .int .i64 (.ofNat 3), .int .i64 (.ofNat 4), .int .i64 (.ofNat 2), .int .i64 (.ofNat 6), .int .i64 (.ofNat 3), .int .i64 (.ofNat 5), .int .i64 (.ofNat 5), .int .i64 (.ofNat 2), .int .i64 (.ofNat 6), .int .i64 (.ofNat 6), .int .i64 (.ofNat 4), .int .i64 (.ofNat 6), .int .i64 (.ofNat 4), .int .i64 (.ofNat 6)]),
    (2, .cells true 0 [.int .i64 (.ofNat 2), .int .i64 (.ofNat 0), .int .i64 (.ofNat 4)])],
   [],
   .tuple ⟨[.int .i64 (.ofNat 0), .int .i64 (.ofNat 60)]⟩⟩
theorem vw151_ok : vw151.okS EE.G = true := by kernel_rfl
theorem vw151_run : evT EE vmT 1000000000 (.call vw151.f vw151.args) vw151.heap (keptK vw151) = some (.bool true) := by kernel_rfl
theorem vw151_h : vw151.holds EE := ent_run envOk vmT_holds _ _ vw151_ok vw151_run
-- decani/candle.Buy, 191 steps
noncomputable def vw166 : Ent :=
  ⟨14, [.agg ⟨[.int .i64 (.ofNat 0), .int .i64 (.ofNat 0), .int .i64 (.ofNat 0), .int .i64 (.ofNat 0), .int .i64 (.ofNat 0), .int .i64 (.ofNat 0), .int .i64 (.ofNat 0), .int .i64 (.ofNat 0), .slice none 0 0, .slice none 0 0, .slice none 0 0]⟩, .int .i64 (.negSucc 0), .int .i64 (.ofNat 0)], 1,
   [(0, .cells false 0 [.int .i64 (.negSucc 300), .int .i64 (.negSucc 300)])],
   [],
   .tuple ⟨[.int .i64 (.ofNat 0), .int .i64 (.ofNat 60)]⟩⟩
theorem vw166_ok : vw166.okS EE.G = true := by kernel_rfl
theorem vw166_run : evT EE vmT 1000000000 (.call vw166.f vw166.args) vw166.heap (keptK vw166) = some (.bool true) := by kernel_rfl
theorem vw166_h : vw166.holds EE := ent_run envOk vmT_holds _ _ vw166_ok vw166_run
-- decani/candle.Surely, 179 steps
noncomputable def vw179 : Ent :=
  ⟨13, [.agg ⟨[.int .i64 (.ofNat 0), .int .i64 (.ofNat 0), .int .i64 (.ofNat 0), .int .i64 (.ofNat 0), .int .i64 (.ofNat 0), .int .i64 (.ofNat 0), .int .i64 (.ofNat 0), .int .i64 (.ofNat 0), .slice none 0 0, .slice none 0 0, .slice none 0 0]⟩, .int .i64 (.negSucc 0)], 1,
   [(0, .cells false 0 [.int .i64 (.negSucc 300), .int .i64 (.negSucc 300)])],
   [],
   .tuple ⟨[.int .i64 (.ofNat 0), .int .i64 (.ofNat 60)]⟩⟩
theorem vw179_ok : vw179.okS EE.G = true := by kernel_rfl
theorem vw179_run : evT EE vmT 1000000000 (.call vw179.f vw179.args) vw179.heap (keptK vw179) = some (.bool true) := by kernel_rfl
theorem vw179_h : vw179.holds EE := ent_run envOk vmT_holds _ _ vw179_ok vw179_run
end Go.Proofs.YtahphmhiehimiaaDoor
