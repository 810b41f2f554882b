/- Known calls, part 0: what single calls hand back, at small heaps, by the kernel's own run of the evaluator. No conditions. -/
import Derived.Test.YtahphmhiehimiaaDoorVMT
set_option linter.all false
namespace Go.Proofs.YtahphmhiehimiaaDoor
open Go.Ai
set_option maxRecDepth 1000000
-- decani/candle.Buy, 98085 steps
noncomputable def vw0 : Ent :=
  ⟨14, [.agg ⟨[.int .i64 (.ofNat 10), .int .i64 (.ofNat 11), .int .i64 (.ofNat 30), .int .i64 (.ofNat 30), .int .i64 (.ofNat 2), .int .i64 (.ofNat 3), .int .i64 (.ofNat 4), .int .i64 (.ofNat 4), .slice (some ⟨1, 0, none⟩) 3 3, .slice (some ⟨2, 0, none⟩) 1 1, .slice none 0 0]⟩, .int .i64 (.ofNat 0), .int .i64 (.ofNat 0)], 3,
   [(0, .cells false 0 [.int .i64 (.negSucc 300), .int .i64 (.negSucc 300)]),
    (1, .cells true 0 [.int .i64 (.ofNat 4), .int .i64 (.ofNat 3), .int .i64 (.ofNat 4), .int .i64 (.ofNat 2), .int .i64 (.ofNat 6), .int .i64 (.ofNat 3), .int .i64 (.ofNat 5), .int .i64 (.ofNat 5), .int .i64 (.ofNat 2), .int .i64 (.ofNat 6), .int .i64 (.ofNat 6), .int .i64 (.ofNat 4), .int .i64 (.ofNat 6), .int .i64 (.ofNat 4), .int .i64 (.ofNat 6)]),
    (2, .cells true 0 [.int .i64 (.ofNat 2), .int .i64 (.ofNat 0), .int .i64 (.ofNat 4)])],
   [],
   .tuple ⟨[.int .i64 (.ofNat 6), .int .i64 (.ofNat 0)]⟩⟩
theorem vw0_ok : vw0.okS EE.G = true := by kernel_rfl
theorem vw0_run : evT EE vmT 1000000000 (.call vw0.f vw0.args) vw0.heap (keptK vw0) = some (.bool true) := by kernel_rfl
theorem vw0_h : vw0.holds EE := ent_run envOk vmT_holds _ _ vw0_ok vw0_run
end Go.Proofs.YtahphmhiehimiaaDoor
