/- Known calls, part 5: what single calls hand back, at small heaps, by the kernel's own run of the evaluator. No conditions. -/
import Derived.Test.YtahphmhiehimiaaDoorVMT
set_option linter.all false
namespace Go.Proofs.YtahphmhiehimiaaDoor
open Go.Ai
set_option maxRecDepth 1000000
-- decani/candle.Wrong, 41128 steps
noncomputable def vw5 : Ent :=
  ⟨16, [.agg ⟨[.int .i64 (.ofNat 10), .int .i64 (.ofNat 11), .int .i64 (.ofNat 30), .int .i64 (.ofNat 30), .int .i64 (.ofNat 2), .int .i64 (.ofNat 3), .int .i64 (.ofNat 4), .int .i64 (.ofNat 4), .slice (some ⟨1, 0, none⟩) 3 3, .slice (some ⟨2, 0, none⟩) 1 1, .slice (some ⟨3, 0, none⟩) 1 1]⟩], 4,
   [(0, .cells false 0 [.int .i64 (.negSucc 300), .int .i64 (.negSucc 300)]),
    (1, .cells true 0 [.int .i64 (.ofNat 4), .int .i64 (.ofNat 3), .int .i64 (.ofNat 4), .int .i64 (.ofNat 2), .int .i64 (.ofNat 6), .int .i64 (.ofNat 3), .int .i64 (.ofNat 5), .int .i64 (.ofNat 5), .int .i64 (.ofNat 2), .int .i64 (.ofNat 6), .int .i64 (.ofNat 6), .int .i64 (.ofNat 4), .int .i64 (.ofNat 6), .int .i64 (.ofNat 4), .int .i64 (.ofNat 6)]),
    (2, .cells true 0 [.int .i64 (.ofNat 2), .int .i64 (.ofNat 0), .int .i64 (.ofNat 4)]),
    (3, .cells true 0 [.int .i64 (.ofNat 0), .int .i64 (.ofNat 0), .int .i64 (.ofNat 8), .int .i64 (.ofNat 0)])],
   [],
   .tuple ⟨[.slice none 0 0, .int .i64 (.ofNat 0)]⟩⟩
theorem vw5_ok : vw5.okS EE.G = true := by kernel_rfl
theorem vw5_run : evT EE vmT 1000000000 (.call vw5.f vw5.args) vw5.heap (keptK vw5) = some (.bool true) := by kernel_rfl
theorem vw5_h : vw5.holds EE := ent_run envOk vmT_holds _ _ vw5_ok vw5_run
-- decani/candle.Life, 2251 steps
noncomputable def vw64 : Ent :=
  ⟨10, [.agg ⟨[.int .i64 (.ofNat 10), .int .i64 (.ofNat 11), .int .i64 (.ofNat 30), .int .i64 (.ofNat 30), .int .i64 (.ofNat 2), .int .i64 (.ofNat 3), .int .i64 (.ofNat 4), .int .i64 (.ofNat 4), .slice (some ⟨1, 0, none⟩) 3 3, .slice (some ⟨2, 0, none⟩) 1 1, .slice (some ⟨3, 0, none⟩) 1 1]⟩, .int .i64 (.negSucc 0)], 4,
   [(0, .cells false 0 [.int .i64 (.negSucc 300), .int .i64 (.negSucc 300)]),
    (1, .cells true 0 [.int .i64 (.ofNat 4), .int .i64 (.ofNat 3), .int .i64 (.ofNat 4), .int .i64 (.ofNat 2), .int .i64 (.ofNat 6), .int .i64 (.ofNat 3), .int .i64 (.ofNat 5), .int .i64 (.ofNat 5), .int .i64 (.ofNat 2), .int .i64 (.ofNat 6), .int .i64 (.ofNat 6), .int .i64 (.ofNat 4), .int .i64 (.ofNat 6), .int .i64 (.ofNat 4), .int .i64 (.ofNat 6)]),
    (2, .cells true 0 [.int .i64 (.ofNat 2), .int .i64 (.ofNat 0), .int .i64 (.ofNat 4)]),
    (3, .cells true 0 [.int .i64 (.ofNat 0), .int .i64 (.ofNat 2), .int .i64 (.ofNat 0), .int .i64 (.ofNat 0)])],
   [],
   .tuple ⟨[.agg ⟨[.int .i64 (.ofNat 0), .int .i64 (.ofNat 0)]⟩, .int .i64 (.ofNat 60)]⟩⟩
theorem vw64_ok : vw64.okS EE.G = true := by kernel_rfl
theorem vw64_run : evT EE vmT 1000000000 (.call vw64.f vw64.args) vw64.heap (keptK vw64) = some (.bool true) := by kernel_rfl
theorem vw64_h : vw64.holds EE := ent_run envOk vmT_holds _ _ vw64_ok vw64_run
-- decani/candle.Fits, 2086 steps
noncomputable def vw78 : Ent :=
  ⟨15, [.agg ⟨[.int .i64 (.ofNat 10), .int .i64 (.ofNat 11), .int .i64 (.ofNat 30), .int .i64 (.ofNat 30), .int .i64 (.ofNat 2), .int .i64 (.ofNat 3), .int .i64 (.ofNat 4), .int .i64 (.ofNat 4), .slice (some ⟨1, 0, none⟩) 3 3, .slice (some ⟨2, 0, none⟩) 1 1, .slice none 0 0]⟩, .agg ⟨[.int .i64 (.ofNat 0), .int .i64 (.negSucc 0), .int .i64 (.ofNat 0), .int .i64 (.ofNat 0)]⟩], 3,
   [(0, .cells false 0 [.int .i64 (.negSucc 300), .int .i64 (.negSucc 300)]),
    (1, .cells true 0 [.int .i64 (.ofNat 4), .int .i64 (.ofNat 3), .int .i64 (.ofNat 4), .int .i64 (.ofNat 2), .int .i64 (.ofNat 6), .int .i64 (.ofNat 3), .int .i64 (.ofNat 5), .int .i64 (.ofNat 5), .int .i64 (.ofNat 2), .int .i64 (.ofNat 6), .int .i64 (.ofNat 6), .int .i64 (.ofNat 4), .int .i64 (.ofNat 6), .int .i64 (.ofNat 4), .int .i64 (.ofNat 6)]),
    (2, .cells true 0 [.int .i64 (.ofNat 2), .int .i64 (.ofNat 0), .int .i64 (.ofNat 61)])],
   [],
   .tuple ⟨[.bool false, .int .i64 (.ofNat 60)]⟩⟩
theorem vw78_ok : vw78.okS EE.G = true := by kernel_rfl
theorem vw78_run : evT EE vmT 1000000000 (.call vw78.f vw78.args) vw78.heap (keptK vw78) = some (.bool true) := by kernel_rfl
theorem vw78_h : vw78.holds EE := ent_run envOk vmT_holds _ _ vw78_ok vw78_run
-- decani/candle.Wrong, 1969 steps
noncomputable def vw92 : Ent :=
  ⟨16, [.agg ⟨[.int .i64 (.ofNat 10), .int .i64 (.ofNat 11), .int .i64 (.ofNat 30), .int .i64 (.ofNat 30), .int .i64 (.ofNat 2), .int .i64 (.ofNat 3), .int .i64 (.ofNat 4), .int .i64 (.ofNat 4), .slice (some ⟨1, 0, none⟩) 3 3, .slice (some ⟨2, 0, none⟩) 1 1, .slice none 0 0]⟩], 3,
   [(0, .cells false 0 [.int .i64 (.negSucc 300), .int .i64 (.negSucc 300)]),
    (1, .cells true 0 [.int .i64 (.ofNat 4), .int .i64 (.ofNat 3), .int .i64 (.ofNat 4), .int .i64 (.ofNat 2), .int .i64 (.ofNat 6), .int .i64 (.ofNat 3), .int .i64 (.ofNat 5), .int .i64 (.ofNat 5), .int .i64 (.ofNat 2), .int .i64 (.ofNat 6), .int .i64 (.ofNat 6), .int .i64 (.ofNat 4), .int .i64 (.ofNat 6), .int .i64 (.ofNat 4), .int .i64 (.ofNat 6)]),
    (2, .cells true 0 [.int .i64 (.ofNat 2), .int .i64 (.ofNat 0), .int .i64 (.ofNat 61)])],
   [],
   .tuple ⟨[.slice none 0 0, .int .i64 (.ofNat 60)]⟩⟩
theorem vw92_ok : vw92.okS EE.G = true := by kernel_rfl
theorem vw92_run : evT EE vmT 1000000000 (.call vw92.f vw92.args) vw92.heap (keptK vw92) = some (.bool true) := by kernel_rfl
theorem vw92_h : vw92.holds EE := ent_run envOk vmT_holds _ _ vw92_ok vw92_run
-- decani/candle.Dark, 888 steps
noncomputable def vw114 : Ent :=
  ⟨11, [.agg ⟨[.int .i64 (.ofNat 10), .int .i64 (.ofNat 11), .int .i64 (.ofNat 30), .int .i64 (.ofNat 30), .int .i64 (.ofNat 2), .int .i64 (.ofNat 3), .int .i64 (.ofNat 4), .int .i64 (.ofNat 4), .slice (some ⟨1, 0, none⟩) 3 3, .slice (some ⟨2, 0, none⟩) 1 1, .slice none 0 0]⟩, .int .i64 (.negSucc 0)], 3,
   [(0, .cells false 0 [.int .i64 (.negSucc 300), .int .i64 (.negSucc 300)]),
    (1, .cells true 0 [.int .i64 (.ofNat 7), .int .i64 (.ofNat 3), .int .i64 (.ofNat 4), .int .i64 (.ofNat 2), .int .i64 (.ofNat 6), .int .i64 (.ofNat 3), .int .i64 (.ofNat 5), .int .i64 (.ofNat 5), .int .i64 (.ofNat 2), .int .i64 (.ofNat 6), .int .i64 (.ofNat 6), .int .i64 (.ofNat 4), .int .i64 (.ofNat 6), .int .i64 (.ofNat 4), .int .i64 (.ofNat 6)]),
    (2, .cells true 0 [.int .i64 (.ofNat 2), .int .i64 (.ofNat 0), .int .i64 (.ofNat 4)])],
   [],
   .tuple ⟨[.agg ⟨[.int .i64 (.ofNat 0), .int .i64 (.ofNat 0)]⟩, .int .i64 (.ofNat 60)]⟩⟩
theorem vw114_ok : vw114.okS EE.G = true := by kernel_rfl
theorem vw114_run : evT EE vmT 1000000000 (.call vw114.f vw114.args) vw114.heap (keptK vw114) = some (.bool true) := by kernel_rfl
theorem vw114_h : vw114.holds EE := ent_run envOk vmT_holds _ _ vw114_ok vw114_run
-- decani/candle.Left, 674 steps
noncomputable def vw129 : Ent :=
  ⟨9, [.agg ⟨[.int .i64 (.ofNat 10), .int .i64 (.ofNat 11), .int .i64 (.ofNat 30), .int .i64 (.ofNat 30), .int .i64 (.ofNat 2), .int .i64 (.ofNat 4), .int .i64 (.ofNat 4), .int .i64 (.ofNat 4), .slice (some ⟨1, 0, none⟩) 3 3, .slice (some ⟨2, 0, none⟩) 1 1, .slice none 0 0]⟩, .int .i64 (.negSucc 0), .int .i64 (.ofNat 0)], 3,
   [(0, .cells false 0 [.int .i64 (.negSucc 300), .int .i64 (.negSucc 300)]),
    (1, .cells true 0 [.int .i64 (.ofNat 4), .int .i64 (.ofNat 3), .int .i64 (.ofNat 4), .int .i64 (.ofNat 2), .int .i64 (.ofNat 6), .int .i64 (.ofNat 3), .int .i64 (.ofNat 5), .int .i64 (.ofNat 5), .int .i64 (.ofNat 2), .int .i64 (.ofNat 6), .int .i64 (.ofNat 6), .int .i64 (.ofNat 4), .int .i64 (.ofNat 6), .int .i64 (.ofNat 4), .int .i64 (.ofNat 6)]),
    (2, .cells true 0 [.int .i64 (.ofNat 2), .int .i64 (.ofNat 0), .int .i64 (.ofNat 4)])],
   [],
   .tuple ⟨[.agg ⟨[.int .i64 (.ofNat 0), .int .i64 (.ofNat 0)]⟩, .int .i64 (.ofNat 60)]⟩⟩
theorem vw129_ok : vw129.okS EE.G = true := by kernel_rfl
theorem vw129_run : evT EE vmT 1000000000 (.call vw129.f vw129.args) vw129.heap (keptK vw129) = some (.bool true) := by kernel_rfl
theorem vw129_h : vw129.holds EE := ent_run envOk vmT_holds _ _ vw129_ok vw129_run
-- decani/candle.Dark, 475 steps
noncomputable def vw143 : Ent :=
  ⟨11, [.agg ⟨[.int .i64 (.ofNat 10), .int .i64 (.ofNat 11), .int .i64 (.ofNat 61), .int .i64 (.ofNat 61), .int .i64 (.ofNat 2), .int .i64 (.ofNat 3), .int .i64 (.ofNat 4), .int .i64 (.ofNat 4), .slice (some ⟨1, 0, none⟩) 3 3, .slice (some ⟨2, 0, none⟩) 1 1, .slice none 0 0]⟩, .int .i64 (.negSucc 0)], 3,
   [(0, .cells false 0 [.int .i64 (.negSucc 300), .int .i64 (.negSucc 300)]),
    (1, .cells true 0 [.int .i64 (.ofNat 4), .int .i64 (.ofNat 3), .int .i64 (.ofNat 4), .int .i64 (.ofNat 2), .int .i64 (.ofNat 6), .int .i64 (.ofNat 3), .int .i64 (.ofNat 5), .int .i64 (.ofNat 5), .int .i64 (.ofNat 2), .int .i64 (.ofNat 6), .int .i64 (.ofNat 6), .int .i64 (.ofNat 4), .int .i64 (.ofNat 6), .int .i64 (.ofNat 4), .int .i64 (.ofNat 6)]),
    (2, .cells true 0 [.int .i64 (.ofNat 2), .int .i64 (.ofNat 0), .int .i64 (.ofNat 4)])],
   [],
   .tuple ⟨[.agg ⟨[.int .i64 (.ofNat 0), .int .i64 (.ofNat 0)]⟩, .int .i64 (.ofNat 60)]⟩⟩
theorem vw143_ok : vw143.okS EE.G = true := by kernel_rfl
theorem vw143_run : evT EE vmT 1000000000 (.call vw143.f vw143.args) vw143.heap (keptK vw143) = some (.bool true) := by kernel_rfl
theorem vw143_h : vw143.holds EE := ent_run envOk vmT_holds _ _ vw143_ok vw143_run
-- decani/candle.Left, 226 steps
noncomputable def vw158 : Ent :=
  ⟨9, [.agg ⟨[.int .i64 (.ofNat 0), .int .i64 (.ofNat 0), .int .i64 (.ofNat 0), .int .i64 (.ofNat 0), .int .i64 (.ofNat 0), .int .i64 (.ofNat 0), .int .i64 (.ofNat 0), .int .i64 (.ofNat 0), .slice none 0 0, .slice none 0 0, .slice none 0 0]⟩, .int .i64 (.negSucc 0), .int .i64 (.ofNat 0)], 1,
   [(0, .cells false 0 [.int .i64 (.negSucc 300), .int .i64 (.negSucc 300)])],
   [],
   .tuple ⟨[.agg ⟨[.int .i64 (.ofNat 0), .int .i64 (.ofNat 0)]⟩, .int .i64 (.ofNat 60)]⟩⟩
theorem vw158_ok : vw158.okS EE.G = true := by kernel_rfl
theorem vw158_run : evT EE vmT 1000000000 (.call vw158.f vw158.args) vw158.heap (keptK vw158) = some (.bool true) := by kernel_rfl
theorem vw158_h : vw158.holds EE := ent_run envOk vmT_holds _ _ vw158_ok vw158_run
-- decani/candle.Fits, 213 steps
noncomputable def vw162 : Ent :=
  ⟨15, [.agg ⟨[.int .i64 (.ofNat 0), .int .i64 (.ofNat 0), .int .i64 (.ofNat 0), .int .i64 (.ofNat 0), .int .i64 (.ofNat 0), .int .i64 (.ofNat 0), .int .i64 (.ofNat 0), .int .i64 (.ofNat 0), .slice none 0 0, .slice none 0 0, .slice none 0 0]⟩, .agg ⟨[.int .i64 (.ofNat 0), .int .i64 (.negSucc 0), .int .i64 (.ofNat 0), .int .i64 (.ofNat 0)]⟩], 1,
   [(0, .cells false 0 [.int .i64 (.negSucc 300), .int .i64 (.negSucc 300)])],
   [],
   .tuple ⟨[.bool false, .int .i64 (.ofNat 60)]⟩⟩
theorem vw162_ok : vw162.okS EE.G = true := by kernel_rfl
theorem vw162_run : evT EE vmT 1000000000 (.call vw162.f vw162.args) vw162.heap (keptK vw162) = some (.bool true) := by kernel_rfl
theorem vw162_h : vw162.holds EE := ent_run envOk vmT_holds _ _ vw162_ok vw162_run
-- decani/candle.Life, 184 steps
noncomputable def vw177 : Ent :=
  ⟨10, [.agg ⟨[.int .i64 (.ofNat 10), .int .i64 (.ofNat 11), .int .i64 (.ofNat 30), .int .i64 (.ofNat 30), .int .i64 (.ofNat 2), .int .i64 (.ofNat 3), .int .i64 (.ofNat 4), .int .i64 (.ofNat 4), .slice (some ⟨1, 0, none⟩) 3 3, .slice (some ⟨2, 0, none⟩) 1 1, .slice (some ⟨3, 0, none⟩) 6 6]⟩, .int .i64 (.negSucc 0)], 4,
   [(0, .cells false 0 [.int .i64 (.negSucc 300), .int .i64 (.negSucc 300)]),
    (1, .cells true 0 [.int .i64 (.ofNat 4), .int .i64 (.ofNat 3), .int .i64 (.ofNat 4), .int .i64 (.ofNat 2), .int .i64 (.ofNat 6), .int .i64 (.ofNat 3), .int .i64 (.ofNat 5), .int .i64 (.ofNat 5), .int .i64 (.ofNat 2), .int .i64 (.ofNat 6), .int .i64 (.ofNat 6), .int .i64 (.ofNat 4), .int .i64 (.ofNat 6), .int .i64 (.ofNat 4), .int .i64 (.ofNat 6)]),
    (2, .cells true 0 [.int .i64 (.ofNat 2), .int .i64 (.ofNat 0), .int .i64 (.ofNat 4)]),
    (3, .cells true 0 [.int .i64 (.ofNat 0), .int .i64 (.ofNat 0), .int .i64 (.ofNat 0), .int .i64 (.ofNat 0), .int .i64 (.ofNat 0), .int .i64 (.ofNat 0), .int .i64 (.ofNat 0), .int .i64 (.ofNat 0), .int .i64 (.ofNat 0), .int .i64 (.ofNat 0), .int .i64 (.ofNat 0), .int .i64 (.ofNat 0), .int .i64 (.ofNat 0), .int .i64 (.ofNat 0), .int .i64 (.ofNat 0), .int .i64 (.ofNat 0), .int .i64 (.ofNat 0), .int .i64 (.ofNat 0), .int .i64 (.ofNat 0), .int .i64 (.ofNat 0), .int .i64 (.ofNat 0), .int .i64 (.ofNat 0), .int .i64 (.ofNat 0), .int .i64 (.ofNat 0)])],
   [],
   .tuple ⟨[.agg ⟨[.int .i64 (.ofNat 0), .int .i64 (.ofNat 0)]⟩, .int .i64 (.ofNat 60)]⟩⟩
theorem vw177_ok : vw177.okS EE.G = true := by kernel_rfl
theorem vw177_run : evT EE vmT 1000000000 (.call vw177.f vw177.args) vw177.heap (keptK vw177) = some (.bool true) := by kernel_rfl
theorem vw177_h : vw177.holds EE := ent_run envOk vmT_holds _ _ vw177_ok vw177_run
end Go.Proofs.YtahphmhiehimiaaDoor
