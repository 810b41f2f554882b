/- Known calls, part 7: what single calls hand back, at small heaps, by the kernel's own run of the evaluator. No conditions. -/
import Derived.Test.YtahphmhiehimiaaDoorVMT
set_option linter.all false
namespace Go.Proofs.YtahphmhiehimiaaDoor
open Go.Ai
set_option maxRecDepth 1000000
-- decani/candle.Buy, 36579 steps
noncomputable def vw7 : Ent :=
  ⟨14, [.agg ⟨[.int .i64 (.ofNat 10), .int .i64 (.ofNat 11), .int .i64 (.ofNat 30), .int .i64 (.ofNat 30), .int .i64 (.ofNat 2), .int .i64 (.ofNat 3), .int .i64 (.ofNat 4), .int .i64 (.ofNat 4), .slice (some ⟨1, 0, none⟩) 3 3, .slice (some ⟨2, 0, none⟩) 1 1, .slice none 0 0]⟩, .int .i64 (.ofNat 0), .int .i64 (.ofNat 2)], 3,
   [(0, .cells false 0 [.int .i64 (.negSucc 300), .int .i64 (.negSucc 300)]),
    (1, .cells true 0 [.int .i64 (.ofNat 4), .int .i64 (.ofNat 3), .int .i64 (.ofNat 4), .int .i64 (.ofNat 2), .int .i64 (.ofNat 6), .int .i64 (.ofNat 3), .int .i64 (.ofNat 5), .int .i64 (.ofNat 5), .int .i64 (.ofNat 2), .int .i64 (.ofNat 6), .int .i64 (.ofNat 6), .int .i64 (.ofNat 4), .int .i64 (.ofNat 6), .int .i64 (.ofNat 4), .int .i64 (.ofNat 6)]),
    (2, .cells true 0 [.int .i64 (.ofNat 2), .int .i64 (.ofNat 0), .int .i64 (.ofNat 4)])],
   [],
   .tuple ⟨[.int .i64 (.ofNat 6), .int .i64 (.ofNat 0)]⟩⟩
theorem vw7_ok : vw7.okS EE.G = true := by kernel_rfl
theorem vw7_run : evT EE vmT 1000000000 (.call vw7.f vw7.args) vw7.heap (keptK vw7) = some (.bool true) := by kernel_rfl
theorem vw7_h : vw7.holds EE := ent_run envOk vmT_holds _ _ vw7_ok vw7_run
-- decani/candle.Buy, 2311 steps
noncomputable def vw45 : Ent :=
  ⟨14, [.agg ⟨[.int .i64 (.ofNat 10), .int .i64 (.ofNat 11), .int .i64 (.ofNat 30), .int .i64 (.ofNat 30), .int .i64 (.ofNat 2), .int .i64 (.ofNat 3), .int .i64 (.ofNat 4), .int .i64 (.ofNat 4), .slice (some ⟨1, 0, none⟩) 3 3, .slice (some ⟨2, 0, none⟩) 1 1, .slice (some ⟨3, 0, none⟩) 1 1]⟩, .int .i64 (.negSucc 0), .int .i64 (.ofNat 0)], 4,
   [(0, .cells false 0 [.int .i64 (.negSucc 300), .int .i64 (.negSucc 300)]),
    (1, .cells true 0 [.int .i64 (.ofNat 4), .int .i64 (.ofNat 3), .int .i64 (.ofNat 4), .int .i64 (.ofNat 2), .int .i64 (.ofNat 6), .int .i64 (.ofNat 3), .int .i64 (.ofNat 5), .int .i64 (.ofNat 5), .int .i64 (.ofNat 2), .int .i64 (.ofNat 6), .int .i64 (.ofNat 6), .int .i64 (.ofNat 4), .int .i64 (.ofNat 6), .int .i64 (.ofNat 4), .int .i64 (.ofNat 6)]),
    (2, .cells true 0 [.int .i64 (.ofNat 2), .int .i64 (.ofNat 0), .int .i64 (.ofNat 4)]),
    (3, .cells true 0 [.int .i64 (.ofNat 0), .int .i64 (.ofNat 0), .int .i64 (.ofNat 301), .int .i64 (.ofNat 0)])],
   [],
   .tuple ⟨[.int .i64 (.ofNat 0), .int .i64 (.ofNat 60)]⟩⟩
theorem vw45_ok : vw45.okS EE.G = true := by kernel_rfl
theorem vw45_run : evT EE vmT 1000000000 (.call vw45.f vw45.args) vw45.heap (keptK vw45) = some (.bool true) := by kernel_rfl
theorem vw45_h : vw45.holds EE := ent_run envOk vmT_holds _ _ vw45_ok vw45_run
-- decani/candle.Life, 2286 steps
noncomputable def vw58 : Ent :=
  ⟨10, [.agg ⟨[.int .i64 (.ofNat 10), .int .i64 (.ofNat 11), .int .i64 (.ofNat 30), .int .i64 (.ofNat 30), .int .i64 (.ofNat 2), .int .i64 (.ofNat 3), .int .i64 (.ofNat 4), .int .i64 (.ofNat 4), .slice (some ⟨1, 0, none⟩) 3 3, .slice (some ⟨2, 0, none⟩) 1 1, .slice (some ⟨3, 0, none⟩) 1 1]⟩, .int .i64 (.negSucc 0)], 4,
   [(0, .cells false 0 [.int .i64 (.negSucc 300), .int .i64 (.negSucc 300)]),
    (1, .cells true 0 [.int .i64 (.ofNat 4), .int .i64 (.ofNat 3), .int .i64 (.ofNat 4), .int .i64 (.ofNat 2), .int .i64 (.ofNat 6), .int .i64 (.ofNat 3), .int .i64 (.ofNat 5), .int .i64 (.ofNat 5), .int .i64 (.ofNat 2), .int .i64 (.ofNat 6), .int .i64 (.ofNat 6), .int .i64 (.ofNat 4), .int .i64 (.ofNat 6), .int .i64 (.ofNat 4), .int .i64 (.ofNat 6)]),
    (2, .cells true 0 [.int .i64 (.ofNat 2), .int .i64 (.ofNat 0), .int .i64 (.ofNat 4)]),
    (3, .cells true 0 [.int .i64 (.ofNat 3), .int .i64 (.ofNat 0), .int .i64 (.ofNat 0), .int .i64 (.ofNat 0)])],
   [],
   .tuple ⟨[.agg ⟨[.int .i64 (.ofNat 0), .int .i64 (.ofNat 0)]⟩, .int .i64 (.ofNat 60)]⟩⟩
theorem vw58_ok : vw58.okS EE.G = true := by kernel_rfl
theorem vw58_run : evT EE vmT 1000000000 (.call vw58.f vw58.args) vw58.heap (keptK vw58) = some (.bool true) := by kernel_rfl
theorem vw58_h : vw58.holds EE := ent_run envOk vmT_holds _ _ vw58_ok vw58_run
-- decani/candle.Wrong, 2216 steps
noncomputable def vw72 : Ent :=
  ⟨16, [.agg ⟨[.int .i64 (.ofNat 10), .int .i64 (.ofNat 11), .int .i64 (.ofNat 30), .int .i64 (.ofNat 30), .int .i64 (.ofNat 2), .int .i64 (.ofNat 3), .int .i64 (.ofNat 4), .int .i64 (.ofNat 4), .slice (some ⟨1, 0, none⟩) 3 3, .slice (some ⟨2, 0, none⟩) 1 1, .slice (some ⟨3, 0, none⟩) 1 1]⟩], 4,
   [(0, .cells false 0 [.int .i64 (.negSucc 300), .int .i64 (.negSucc 300)]),
    (1, .cells true 0 [.int .i64 (.ofNat 4), .int .i64 (.ofNat 3), .int .i64 (.ofNat 4), .int .i64 (.ofNat 2), .int .i64 (.ofNat 6), .int .i64 (.ofNat 3), .int .i64 (.ofNat 5), .int .i64 (.ofNat 5), .int .i64 (.ofNat 2), .int .i64 (.ofNat 6), .int .i64 (.ofNat 6), .int .i64 (.ofNat 4), .int .i64 (.ofNat 6), .int .i64 (.ofNat 4), .int .i64 (.ofNat 6)]),
    (2, .cells true 0 [.int .i64 (.ofNat 2), .int .i64 (.ofNat 0), .int .i64 (.ofNat 4)]),
    (3, .cells true 0 [.int .i64 (.ofNat 0), .int .i64 (.ofNat 0), .int .i64 (.negSucc 300), .int .i64 (.ofNat 0)])],
   [],
   .tuple ⟨[.slice none 0 0, .int .i64 (.ofNat 60)]⟩⟩
theorem vw72_ok : vw72.okS EE.G = true := by kernel_rfl
theorem vw72_run : evT EE vmT 1000000000 (.call vw72.f vw72.args) vw72.heap (keptK vw72) = some (.bool true) := by kernel_rfl
theorem vw72_h : vw72.holds EE := ent_run envOk vmT_holds _ _ vw72_ok vw72_run
-- decani/candle.Buy, 2046 steps
noncomputable def vw86 : Ent :=
  ⟨14, [.agg ⟨[.int .i64 (.ofNat 10), .int .i64 (.ofNat 11), .int .i64 (.ofNat 30), .int .i64 (.ofNat 30), .int .i64 (.ofNat 2), .int .i64 (.ofNat 3), .int .i64 (.ofNat 4), .int .i64 (.ofNat 4), .slice (some ⟨1, 0, none⟩) 3 3, .slice (some ⟨2, 0, none⟩) 1 1, .slice none 0 0]⟩, .int .i64 (.negSucc 0), .int .i64 (.ofNat 0)], 3,
   [(0, .cells false 0 [.int .i64 (.negSucc 300), .int .i64 (.negSucc 300)]),
    (1, .cells true 0 [.int .i64 (.ofNat 4), .int .i64 (.ofNat 3), .int .i64 (.ofNat 4), .int .i64 (.ofNat 2), .int .i64 (.ofNat 6), .int .i64 (.ofNat 3), .int .i64 (.ofNat 5), .int .i64 (.ofNat 5), .int .i64 (.ofNat 2), .int .i64 (.ofNat 6), .int .i64 (.ofNat 6), .int .i64 (.ofNat 4), .int .i64 (.ofNat 6), .int .i64 (.ofNat 4), .int .i64 (.ofNat 6)]),
    (2, .cells true 0 [.int .i64 (.ofNat 3), .int .i64 (.ofNat 0), .int .i64 (.ofNat 4)])],
   [],
   .tuple ⟨[.int .i64 (.ofNat 0), .int .i64 (.ofNat 60)]⟩⟩
theorem vw86_ok : vw86.okS EE.G = true := by kernel_rfl
theorem vw86_run : evT EE vmT 1000000000 (.call vw86.f vw86.args) vw86.heap (keptK vw86) = some (.bool true) := by kernel_rfl
theorem vw86_h : vw86.holds EE := ent_run envOk vmT_holds _ _ vw86_ok vw86_run
-- decani/candle.Surely, 1118 steps
noncomputable def vw101 : Ent :=
  ⟨13, [.agg ⟨[.int .i64 (.ofNat 10), .int .i64 (.ofNat 11), .int .i64 (.ofNat 30), .int .i64 (.ofNat 30), .int .i64 (.ofNat 2), .int .i64 (.ofNat 3), .int .i64 (.ofNat 4), .int .i64 (.ofNat 4), .slice (some ⟨1, 0, none⟩) 3 3, .slice (some ⟨2, 0, none⟩) 1 1, .slice none 0 0]⟩, .int .i64 (.negSucc 0)], 3,
   [(0, .cells false 0 [.int .i64 (.negSucc 300), .int .i64 (.negSucc 300)]),
    (1, .cells true 0 [.int .i64 (.ofNat 4), .int .i64 (.ofNat 3), .int .i64 (.ofNat 4), .int .i64 (.ofNat 2), .int .i64 (.ofNat 10), .int .i64 (.ofNat 3), .int .i64 (.ofNat 5), .int .i64 (.ofNat 5), .int .i64 (.ofNat 2), .int .i64 (.ofNat 6), .int .i64 (.ofNat 6), .int .i64 (.ofNat 4), .int .i64 (.ofNat 6), .int .i64 (.ofNat 4), .int .i64 (.ofNat 6)]),
    (2, .cells true 0 [.int .i64 (.ofNat 2), .int .i64 (.ofNat 0), .int .i64 (.ofNat 4)])],
   [],
   .tuple ⟨[.int .i64 (.ofNat 0), .int .i64 (.ofNat 60)]⟩⟩
theorem vw101_ok : vw101.okS EE.G = true := by kernel_rfl
theorem vw101_run : evT EE vmT 1000000000 (.call vw101.f vw101.args) vw101.heap (keptK vw101) = some (.bool true) := by kernel_rfl
theorem vw101_h : vw101.holds EE := ent_run envOk vmT_holds _ _ vw101_ok vw101_run
-- decani/candle.Fits, 911 steps
noncomputable def vw112 : Ent :=
  ⟨15, [.agg ⟨[.int .i64 (.ofNat 10), .int .i64 (.ofNat 11), .int .i64 (.ofNat 30), .int .i64 (.ofNat 30), .int .i64 (.ofNat 2), .int .i64 (.ofNat 3), .int .i64 (.ofNat 4), .int .i64 (.ofNat 4), .slice (some ⟨1, 0, none⟩) 3 3, .slice (some ⟨2, 0, none⟩) 1 1, .slice none 0 0]⟩, .agg ⟨[.int .i64 (.ofNat 0), .int .i64 (.negSucc 0), .int .i64 (.ofNat 0), .int .i64 (.ofNat 0)]⟩], 3,
   [(0, .cells false 0 [.int .i64 (.negSucc 300), .int .i64 (.negSucc 300)]),
    (1, .cells true 0 [.int .i64 (.ofNat 7), .int .i64 (.ofNat 3), .int .i64 (.ofNat 4), .int .i64 (.ofNat 2), .int .i64 (.ofNat 6), .int .i64 (.ofNat 3), .int .i64 (.ofNat 5), .int .i64 (.ofNat 5), .int .i64 (.ofNat 2), .int .i64 (.ofNat 6), .int .i64 (.ofNat 6), .int .i64 (.ofNat 4), .int .i64 (.ofNat 6), .int .i64 (.ofNat 4), .int .i64 (.ofNat 6)]),
    (2, .cells true 0 [.int .i64 (.ofNat 2), .int .i64 (.ofNat 0), .int .i64 (.ofNat 4)])],
   [],
   .tuple ⟨[.bool false, .int .i64 (.ofNat 60)]⟩⟩
theorem vw112_ok : vw112.okS EE.G = true := by kernel_rfl
theorem vw112_run : evT EE vmT 1000000000 (.call vw112.f vw112.args) vw112.heap (keptK vw112) = some (.bool true) := by kernel_rfl
theorem vw112_h : vw112.holds EE := ent_run envOk vmT_holds _ _ vw112_ok vw112_run
-- decani/candle.Dark, 746 steps
noncomputable def vw125 : Ent :=
  ⟨11, [.agg ⟨[.int .i64 (.ofNat 10), .int .i64 (.ofNat 11), .int .i64 (.ofNat 30), .int .i64 (.ofNat 30), .int .i64 (.ofNat 2), .int .i64 (.ofNat 3), .int .i64 (.ofNat 0), .int .i64 (.ofNat 0), .slice (some ⟨1, 0, none⟩) 3 3, .slice (some ⟨2, 0, none⟩) 1 1, .slice none 0 0]⟩, .int .i64 (.negSucc 0)], 3,
   [(0, .cells false 0 [.int .i64 (.negSucc 300), .int .i64 (.negSucc 300)]),
    (1, .cells true 0 [.int .i64 (.ofNat 4), .int .i64 (.ofNat 3), .int .i64 (.ofNat 4), .int .i64 (.ofNat 2), .int .i64 (.ofNat 6), .int .i64 (.ofNat 3), .int .i64 (.ofNat 5), .int .i64 (.ofNat 5), .int .i64 (.ofNat 2), .int .i64 (.ofNat 6), .int .i64 (.ofNat 6), .int .i64 (.ofNat 4), .int .i64 (.ofNat 6), .int .i64 (.ofNat 4), .int .i64 (.ofNat 6)]),
    (2, .cells true 0 [.int .i64 (.ofNat 2), .int .i64 (.ofNat 0), .int .i64 (.ofNat 4)])],
   [],
   .tuple ⟨[.agg ⟨[.int .i64 (.ofNat 0), .int .i64 (.ofNat 0)]⟩, .int .i64 (.ofNat 60)]⟩⟩
theorem vw125_ok : vw125.okS EE.G = true := by kernel_rfl
theorem vw125_run : evT EE vmT 1000000000 (.call vw125.f vw125.args) vw125.heap (keptK vw125) = some (.bool true) := by kernel_rfl
theorem vw125_h : vw125.holds EE := ent_run envOk vmT_holds _ _ vw125_ok vw125_run
-- decani/candle.Dark, 638 steps
noncomputable def vw134 : Ent :=
  ⟨11, [.agg ⟨[.int .i64 (.ofNat 10), .int .i64 (.ofNat 11), .int .i64 (.ofNat 30), .int .i64 (.ofNat 30), .int .i64 (.ofNat 2), .int .i64 (.ofNat 4), .int .i64 (.ofNat 4), .int .i64 (.ofNat 4), .slice (some ⟨1, 0, none⟩) 3 3, .slice (some ⟨2, 0, none⟩) 1 1, .slice none 0 0]⟩, .int .i64 (.negSucc 0)], 3,
   [(0, .cells false 0 [.int .i64 (.negSucc 300), .int .i64 (.negSucc 300)]),
    (1, .cells true 0 [.int .i64 (.ofNat 4), .int .i64 (.ofNat 3), .int .i64 (.ofNat 4), .int .i64 (.ofNat 2), .int .i64 (.ofNat 6), .int .i64 (.ofNat 3), .int .i64 (.ofNat 5), .int .i64 (.ofNat 5), .int .i64 (.ofNat 2), .int .i64 (.ofNat 6), .int .i64 (.ofNat 6), .int .i64 (.ofNat 4), .int .i64 (.ofNat 6), .int .i64 (.ofNat 4), .int .i64 (.ofNat 6)]),
    (2, .cells true 0 [.int .i64 (.ofNat 2), .int .i64 (.ofNat 0), .int .i64 (.ofNat 4)])],
   [],
   .tuple ⟨[.agg ⟨[.int .i64 (.ofNat 0), .int .i64 (.ofNat 0)]⟩, .int .i64 (.ofNat 60)]⟩⟩
theorem vw134_ok : vw134.okS EE.G = true := by kernel_rfl
theorem vw134_run : evT EE vmT 1000000000 (.call vw134.f vw134.args) vw134.heap (keptK vw134) = some (.bool true) := by kernel_rfl
theorem vw134_h : vw134.holds EE := ent_run envOk vmT_holds _ _ vw134_ok vw134_run
-- decani/candle.Surely, 356 steps
noncomputable def vw155 : Ent :=
  ⟨13, [.agg ⟨[.int .i64 (.ofNat 10), .int .i64 (.ofNat 13), .int .i64 (.ofNat 30), .int .i64 (.ofNat 30), .int .i64 (.ofNat 2), .int .i64 (.ofNat 3), .int .i64 (.ofNat 4), .int .i64 (.ofNat 4), .slice (some ⟨1, 0, none⟩) 3 3, .slice (some ⟨2, 0, none⟩) 1 1, .slice none 0 0]⟩, .int .i64 (.negSucc 0)], 3,
   [(0, .cells false 0 [.int .i64 (.negSucc 300), .int .i64 (.negSucc 300)]),
    (1, .cells true 0 [.int .i64 (.ofNat 4), .int .i64 (.ofNat 3), .int .i64 (.ofNat 4), .int .i64 (.ofNat 2), .int .i64 (.ofNat 6), .int .i64 (.ofNat 3), .int .i64 (.ofNat 5), .int .i64 (.ofNat 5), .int .i64 (.ofNat 2), .int .i64 (.ofNat 6), .int .i64 (.ofNat 6), .int .i64 (.ofNat 4), .int .i64 (.ofNat 6), .int .i64 (.ofNat 4), .int .i64 (.ofNat 6)]),
    (2, .cells true 0 [.int .i64 (.ofNat 2), .int .i64 (.ofNat 0), .int .i64 (.ofNat 4)])],
   [],
   .tuple ⟨[.int .i64 (.ofNat 0), .int .i64 (.ofNat 60)]⟩⟩
theorem vw155_ok : vw155.okS EE.G = true := by kernel_rfl
theorem vw155_run : evT EE vmT 1000000000 (.call vw155.f vw155.args) vw155.heap (keptK vw155) = some (.bool true) := by kernel_rfl
theorem vw155_h : vw155.holds EE := ent_run envOk vmT_holds _ _ vw155_ok vw155_run
-- decani/candle.Dark, 190 steps
noncomputable def vw172 : Ent :=
  ⟨11, [.agg ⟨[.int .i64 (.ofNat 10), .int .i64 (.ofNat 11), .int .i64 (.ofNat 30), .int .i64 (.ofNat 30), .int .i64 (.ofNat 2), .int .i64 (.ofNat 3), .int .i64 (.ofNat 4), .int .i64 (.ofNat 4), .slice (some ⟨1, 0, none⟩) 3 3, .slice (some ⟨2, 0, none⟩) 5 5, .slice none 0 0]⟩, .int .i64 (.negSucc 0)], 3,
   [(0, .cells false 0 [.int .i64 (.negSucc 300), .int .i64 (.negSucc 300)]),
    (1, .cells true 0 [.int .i64 (.ofNat 4), .int .i64 (.ofNat 3), .int .i64 (.ofNat 4), .int .i64 (.ofNat 2), .int .i64 (.ofNat 6), .int .i64 (.ofNat 3), .int .i64 (.ofNat 5), .int .i64 (.ofNat 5), .int .i64 (.ofNat 2), .int .i64 (.ofNat 6), .int .i64 (.ofNat 6), .int .i64 (.ofNat 4), .int .i64 (.ofNat 6), .int .i64 (.ofNat 4), .int .i64 (.ofNat 6)]),
    (2, .cells true 0 [.int .i64 (.ofNat 0), .int .i64 (.ofNat 0), .int .i64 (.ofNat 0), .int .i64 (.ofNat 0), .int .i64 (.ofNat 0), .int .i64 (.ofNat 0), .int .i64 (.ofNat 0), .int .i64 (.ofNat 0), .int .i64 (.ofNat 0), .int .i64 (.ofNat 0), .int .i64 (.ofNat 0), .int .i64 (.ofNat 0), .int .i64 (.ofNat 0), .int .i64 (.ofNat 0), .int .i64 (.ofNat 0)])],
   [],
   .tuple ⟨[.agg ⟨[.int .i64 (.ofNat 0), .int .i64 (.ofNat 0)]⟩, .int .i64 (.ofNat 60)]⟩⟩
theorem vw172_ok : vw172.okS EE.G = true := by kernel_rfl
theorem vw172_run : evT EE vmT 1000000000 (.call vw172.f vw172.args) vw172.heap (keptK vw172) = some (.bool true) := by kernel_rfl
theorem vw172_h : vw172.holds EE := ent_run envOk vmT_holds _ _ vw172_ok vw172_run
-- decani/candle.Right, 96 steps
noncomputable def vw188 : Ent :=
  ⟨8, [.agg ⟨[.int .i64 (.ofNat 10), .int .i64 (.ofNat 11), .int .i64 (.ofNat 30), .int .i64 (.ofNat 30), .int .i64 (.ofNat 2), .int .i64 (.ofNat 3), .int .i64 (.ofNat 4), .int .i64 (.ofNat 4), .slice (some ⟨1, 0, none⟩) 6 18446744073709551616, .slice (some ⟨2, 0, none⟩) 1 1, .slice none 0 0]⟩], 3,
   [(0, .cells false 0 [.int .i64 (.negSucc 300), .int .i64 (.negSucc 300)]),
    (1, .cells true 6 [.int .i64 (.ofNat 4), .int .i64 (.ofNat 3), .int .i64 (.ofNat 4), .int .i64 (.ofNat 2), .int .i64 (.ofNat 6), .int .i64 (.ofNat 3), .int .i64 (.ofNat 5), .int .i64 (.ofNat 5), .int .i64 (.ofNat 2), .int .i64 (.ofNat 6), .int .i64 (.ofNat 6), .int .i64 (.ofNat 4), .int .i64 (.ofNat 6), .int .i64 (.ofNat 4), .int .i64 (.ofNat 6), .int .i64 (.ofNat 4), .int .i64 (.ofNat 3), .int .i64 (.ofNat 4), .int .i64 (.ofNat 2), .int .i64 (.ofNat 6), .int .i64 (.ofNat 3), .int .i64 (.ofNat 5), .int .i64 (.ofNat 5), .int .i64 (.ofNat 2), .int .i64 (.ofNat 6), .int .i64 (.ofNat 6), .int .i64 (.ofNat 4), .int .i64 (.ofNat 6), .int .i64 (.ofNat 4), .int .i64 (.ofNat 6)]),
    (2, .cells true 0 [.int .i64 (.ofNat 2), .int .i64 (.ofNat 0), .int .i64 (.ofNat 4)])],
   [],
   .tuple ⟨[.bool false, .int .i64 (.ofNat 60)]⟩⟩
theorem vw188_ok : vw188.okS EE.G = true := by kernel_rfl
theorem vw188_run : evT EE vmT 1000000000 (.call vw188.f vw188.args) vw188.heap (keptK vw188) = some (.bool true) := by kernel_rfl
theorem vw188_h : vw188.holds EE := ent_run envOk vmT_holds _ _ vw188_ok vw188_run
end Go.Proofs.YtahphmhiehimiaaDoor
