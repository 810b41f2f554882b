/- Known calls, part 0: what single calls hand back, at small heaps, by the kernel's own run of the evaluator. No conditions. -/
import Derived.Test.YtgffhndedhbjlaaGreatDoorZC
set_option linter.all false
namespace Go.Proofs.YtgffhndedhbjlaaGreatDoor
open Go.Ai
set_option maxRecDepth 1000000
-- (decani/strain.watch).trouble, 7718 steps
noncomputable def zm0 : Ent :=
  ⟨36, [.agg ⟨[.slice (some ⟨2, 0, none⟩) 2 2, .int .i64 (.ofNat 2), .int .i64 (.ofNat 3), .int .i64 (.ofNat 4), .int .i64 (.ofNat 4), .int .i64 (.ofNat 3), .int .i64 (.ofNat 4), .slice (some ⟨3, 0, none⟩) 4 4, .slice none 0 0, .slice none 0 0, .map (some 4), .slice (some ⟨5, 0, none⟩) 4 18446744073709551616]⟩], 6,
   [(0, .cells false 0 [.int .i64 (.ofNat 5), .int .i64 (.ofNat 3)]),
    (1, .cells false 0 [.int .i64 (.negSucc 0), .int .i64 (.negSucc 0), .int .i64 (.negSucc 0)]),
    (2, .cells true 0 [.int .i64 (.ofNat 10), .int .i64 (.ofNat 11), .int .i64 (.ofNat 8), .int .i64 (.ofNat 8)]),
    (3, .cells true 0 [.int .i64 (.ofNat 1), .int .i64 (.ofNat 1), .int .i64 (.ofNat 1), .int .i64 (.ofNat 0), .int .i64 (.ofNat 1), .int .i64 (.ofNat 2), .int .i64 (.ofNat 0), .int .i64 (.ofNat 1), .int .i64 (.ofNat 1), .int .i64 (.ofNat 2), .int .i64 (.ofNat 0), .int .i64 (.ofNat 1)]),
    (4, .map [⟨.agg ⟨[.int .i64 (.ofNat 0), .int .i64 (.ofNat 0)]⟩, .int .i64 (.ofNat 1), 0⟩, ⟨.agg ⟨[.int .i64 (.ofNat 2), .int .i64 (.ofNat 1)]⟩, .int .i64 (.ofNat 1), 1⟩] 2),
    (5, .cells true 7 [.int .i64 (.ofNat 2), .int .i64 (.ofNat 4), .int .i64 (.ofNat 3), .int .i64 (.ofNat 10), .int .i64 (.ofNat 8), .int .i64 (.ofNat 0), .int .i64 (.ofNat 2), .int .i64 (.ofNat 4), .int .i64 (.ofNat 4), .int .i64 (.ofNat 10), .int .i64 (.ofNat 8), .int .i64 (.ofNat 0), .int .i64 (.ofNat 3), .int .i64 (.ofNat 4), .int .i64 (.ofNat 3), .int .i64 (.ofNat 10), .int .i64 (.ofNat 8), .int .i64 (.ofNat 0), .int .i64 (.ofNat 3), .int .i64 (.ofNat 4), .int .i64 (.ofNat 4), .int .i64 (.ofNat 10), .int .i64 (.ofNat 8), .int .i64 (.ofNat 0)])],
   [],
   .agg ⟨[.int .i64 (.ofNat 5), .int .i64 (.ofNat 3)]⟩⟩
theorem zm0_ok : zm0.okS EE.G = true := by kernel_rfl
theorem zm0_run : evT EE zcT 1000000000 (.call zm0.f zm0.args) zm0.heap (keptK zm0) = some (.bool true) := by kernel_rfl
theorem zm0_h : zm0.holds EE := ent_run envOk zcT_holds _ _ zm0_ok zm0_run
-- (decani/strain.watch).trouble, 7311 steps
noncomputable def zm7 : Ent :=
  ⟨36, [.agg ⟨[.slice (some ⟨2, 0, none⟩) 2 2, .int .i64 (.ofNat 2), .int .i64 (.ofNat 3), .int .i64 (.ofNat 4), .int .i64 (.ofNat 4), .int .i64 (.ofNat 3), .int .i64 (.ofNat 4), .slice (some ⟨3, 0, none⟩) 4 4, .slice none 0 0, .slice none 0 0, .map (some 4), .slice (some ⟨5, 0, none⟩) 4 18446744073709551616]⟩], 6,
   [(0, .cells false 0 [.int .i64 (.ofNat 5), .int .i64 (.ofNat 3)]),
    (1, .cells false 0 [.int .i64 (.negSucc 0), .int .i64 (.negSucc 0), .int .i64 (.negSucc 0)]),
    (2, .cells true 0 [.int .i64 (.ofNat 10), .int .i64 (.ofNat 11), .int .i64 (.ofNat 8), .int .i64 (.ofNat 8)]),
    (3, .cells true 0 [.int .i64 (.ofNat 1), .int .i64 (.ofNat 1), .int .i64 (.ofNat 1), .int .i64 (.ofNat 0), .int .i64 (.ofNat 1), .int .i64 (.ofNat 2), .int .i64 (.ofNat 0), .int .i64 (.ofNat 1), .int .i64 (.ofNat 1), .int .i64 (.ofNat 2), .int .i64 (.ofNat 0), .int .i64 (.ofNat 1)]),
    (4, .map [⟨.agg ⟨[.int .i64 (.ofNat 2), .int .i64 (.ofNat 0)]⟩, .int .i64 (.ofNat 1), 0⟩] 1),
    (5, .cells true 7 [.int .i64 (.ofNat 2), .int .i64 (.ofNat 4), .int .i64 (.ofNat 3), .int .i64 (.ofNat 10), .int .i64 (.ofNat 8), .int .i64 (.ofNat 0), .int .i64 (.ofNat 2), .int .i64 (.ofNat 4), .int .i64 (.ofNat 4), .int .i64 (.ofNat 10), .int .i64 (.ofNat 8), .int .i64 (.ofNat 0), .int .i64 (.ofNat 3), .int .i64 (.ofNat 4), .int .i64 (.ofNat 3), .int .i64 (.ofNat 10), .int .i64 (.ofNat 8), .int .i64 (.ofNat 0), .int .i64 (.ofNat 3), .int .i64 (.ofNat 4), .int .i64 (.ofNat 4), .int .i64 (.ofNat 10), .int .i64 (.ofNat 8), .int .i64 (.ofNat 0)])],
   [],
   .agg ⟨[.int .i64 (.ofNat 2), .int .i64 (.ofNat 1)]⟩⟩
theorem zm7_ok : zm7.okS EE.G = true := by kernel_rfl
theorem zm7_run : evT EE zcT 1000000000 (.call zm7.f zm7.args) zm7.heap (keptK zm7) = some (.bool true) := by kernel_rfl
theorem zm7_h : zm7.holds EE := ent_run envOk zcT_holds _ _ zm7_ok zm7_run
-- (decani/strain.watch).trouble, 7293 steps
noncomputable def zm9 : Ent :=
  ⟨36, [.agg ⟨[.slice (some ⟨2, 0, none⟩) 2 2, .int .i64 (.ofNat 2), .int .i64 (.ofNat 3), .int .i64 (.ofNat 4), .int .i64 (.ofNat 4), .int .i64 (.ofNat 3), .int .i64 (.ofNat 4), .slice (some ⟨3, 0, none⟩) 4 4, .slice none 0 0, .slice none 0 0, .map (some 4), .slice (some ⟨5, 0, none⟩) 4 18446744073709551616]⟩], 6,
   [(0, .cells false 0 [.int .i64 (.ofNat 5), .int .i64 (.ofNat 3)]),
    (1, .cells false 0 [.int .i64 (.negSucc 0), .int .i64 (.negSucc 0), .int .i64 (.negSucc 0)]),
    (2, .cells true 0 [.int .i64 (.ofNat 10), .int .i64 (.ofNat 11), .int .i64 (.ofNat 8), .int .i64 (.ofNat 8)]),
    (3, .cells true 0 [.int .i64 (.ofNat 1), .int .i64 (.ofNat 1), .int .i64 (.ofNat 1), .int .i64 (.ofNat 0), .int .i64 (.ofNat 1), .int .i64 (.ofNat 1), .int .i64 (.ofNat 0), .int .i64 (.ofNat 1), .int .i64 (.ofNat 1), .int .i64 (.ofNat 2), .int .i64 (.ofNat 0), .int .i64 (.ofNat 1)]),
    (4, .map [⟨.agg ⟨[.int .i64 (.ofNat 0), .int .i64 (.ofNat 0)]⟩, .int .i64 (.ofNat 1), 0⟩] 1),
    (5, .cells true 7 [.int .i64 (.ofNat 2), .int .i64 (.ofNat 4), .int .i64 (.ofNat 3), .int .i64 (.ofNat 10), .int .i64 (.ofNat 8), .int .i64 (.ofNat 0), .int .i64 (.ofNat 2), .int .i64 (.ofNat 4), .int .i64 (.ofNat 4), .int .i64 (.ofNat 10), .int .i64 (.ofNat 8), .int .i64 (.ofNat 0), .int .i64 (.ofNat 3), .int .i64 (.ofNat 4), .int .i64 (.ofNat 3), .int .i64 (.ofNat 10), .int .i64 (.ofNat 8), .int .i64 (.ofNat 0), .int .i64 (.ofNat 3), .int .i64 (.ofNat 4), .int .i64 (.ofNat 4), .int .i64 (.ofNat 10), .int .i64 (.ofNat 8), .int .i64 (.ofNat 0)])],
   [],
   .agg ⟨[.int .i64 (.ofNat 2), .int .i64 (.ofNat 1)]⟩⟩
theorem zm9_ok : zm9.okS EE.G = true := by kernel_rfl
theorem zm9_run : evT EE zcT 1000000000 (.call zm9.f zm9.args) zm9.heap (keptK zm9) = some (.bool true) := by kernel_rfl
theorem zm9_h : zm9.holds EE := ent_run envOk zcT_holds _ _ zm9_ok zm9_run
-- (decani/strain.watch).trouble, 7233 steps
noncomputable def zm12 : Ent :=
  ⟨36, [.agg ⟨[.slice (some ⟨2, 0, none⟩) 2 2, .int .i64 (.ofNat 2), .int .i64 (.ofNat 3), .int .i64 (.ofNat 4), .int .i64 (.ofNat 4), .int .i64 (.ofNat 3), .int .i64 (.ofNat 4), .slice (some ⟨3, 0, none⟩) 4 4, .slice none 0 0, .slice none 0 0, .map (some 4), .slice (some ⟨5, 0, none⟩) 4 18446744073709551616]⟩], 6,
   [(0, .cells false 0 [.int .i64 (.ofNat 5), .int .i64 (.ofNat 3)]),
    (1, .cells false 0 [.int .i64 (.negSucc 0), .int .i64 (.negSucc 0), .int .i64 (.negSucc 0)]),
    (2, .cells true 0 [.int .i64 (.ofNat 10), .int .i64 (.ofNat 11), .int .i64 (.ofNat 8), .int .i64 (.ofNat 8)]),
    (3, .cells true 0 [.int .i64 (.ofNat 1), .int .i64 (.ofNat 1), .int .i64 (.ofNat 1), .int .i64 (.ofNat 0), .int .i64 (.ofNat 1), .int .i64 (.ofNat 2), .int .i64 (.ofNat 0), .int .i64 (.ofNat 1), .int .i64 (.ofNat 1), .int .i64 (.ofNat 2), .int .i64 (.ofNat 0), .int .i64 (.ofNat 1)]),
    (4, .map [⟨.agg ⟨[.int .i64 (.ofNat 0), .int .i64 (.ofNat 0)]⟩, .int .i64 (.ofNat 1), 0⟩, ⟨.agg ⟨[.int .i64 (.ofNat 2), .int .i64 (.ofNat 0)]⟩, .int .i64 (.ofNat 1), 1⟩] 2),
    (5, .cells true 7 [.int .i64 (.ofNat 2), .int .i64 (.ofNat 4), .int .i64 (.ofNat 3), .int .i64 (.ofNat 10), .int .i64 (.ofNat 8), .int .i64 (.ofNat 0), .int .i64 (.ofNat 2), .int .i64 (.ofNat 4), .int .i64 (.ofNat 4), .int .i64 (.ofNat 10), .int .i64 (.ofNat 8), .int .i64 (.ofNat 0), .int .i64 (.ofNat 3), .int .i64 (.ofNat 4), .int .i64 (.ofNat 3), .int .i64 (.ofNat 10), .int .i64 (.ofNat 8), .int .i64 (.ofNat 0), .int .i64 (.ofNat 3), .int .i64 (.ofNat 4), .int .i64 (.ofNat 4), .int .i64 (.ofNat 10), .int .i64 (.ofNat 8), .int .i64 (.ofNat 0)])],
   [],
   .agg ⟨[.int .i64 (.ofNat 2), .int .i64 (.ofNat 1)]⟩⟩
theorem zm12_ok : zm12.okS EE.G = true := by kernel_rfl
theorem zm12_run : evT EE zcT 1000000000 (.call zm12.f zm12.args) zm12.heap (keptK zm12) = some (.bool true) := by kernel_rfl
theorem zm12_h : zm12.holds EE := ent_run envOk zcT_holds _ _ zm12_ok zm12_run
-- (decani/strain.watch).trouble, 4232 steps
noncomputable def zm17 : Ent :=
  ⟨36, [.agg ⟨[.slice (some ⟨2, 0, none⟩) 2 2, .int .i64 (.ofNat 2), .int .i64 (.ofNat 3), .int .i64 (.ofNat 4), .int .i64 (.ofNat 4), .int .i64 (.ofNat 3), .int .i64 (.ofNat 4), .slice (some ⟨3, 0, none⟩) 4 4, .slice none 0 0, .slice (some ⟨4, 0, none⟩) 1 1, .map (some 5), .slice (some ⟨6, 0, none⟩) 2 18446744073709551616]⟩], 7,
   [(0, .cells false 0 [.int .i64 (.ofNat 5), .int .i64 (.ofNat 3)]),
    (1, .cells false 0 [.int .i64 (.negSucc 0), .int .i64 (.negSucc 0), .int .i64 (.negSucc 0)]),
    (2, .cells true 0 [.int .i64 (.ofNat 10), .int .i64 (.ofNat 11), .int .i64 (.ofNat 8), .int .i64 (.ofNat 8)]),
    (3, .cells true 0 [.int .i64 (.ofNat 1), .int .i64 (.ofNat 1), .int .i64 (.ofNat 1), .int .i64 (.ofNat 0), .int .i64 (.ofNat 1), .int .i64 (.ofNat 1), .int .i64 (.ofNat 0), .int .i64 (.ofNat 1), .int .i64 (.ofNat 1), .int .i64 (.ofNat 2), .int .i64 (.ofNat 0), .int .i64 (.ofNat 1)]),
    (4, .cells true 0 [.int .i64 (.ofNat 0), .int .i64 (.ofNat 0), .int .i64 (.ofNat 3), .int .i64 (.ofNat 0)]),
    (5, .map [⟨.agg ⟨[.int .i64 (.ofNat 1), .int .i64 (.ofNat 1)]⟩, .int .i64 (.ofNat 1), 0⟩] 1),
    (6, .cells true 7 [.int .i64 (.ofNat 3), .int .i64 (.ofNat 4), .int .i64 (.ofNat 3), .int .i64 (.ofNat 10), .int .i64 (.ofNat 8), .int .i64 (.ofNat 0), .int .i64 (.ofNat 3), .int .i64 (.ofNat 4), .int .i64 (.ofNat 4), .int .i64 (.ofNat 10), .int .i64 (.ofNat 8), .int .i64 (.ofNat 0)])],
   [],
   .agg ⟨[.int .i64 (.ofNat 2), .int .i64 (.ofNat 0)]⟩⟩
theorem zm17_ok : zm17.okS EE.G = true := by kernel_rfl
theorem zm17_run : evT EE zcT 1000000000 (.call zm17.f zm17.args) zm17.heap (keptK zm17) = some (.bool true) := by kernel_rfl
theorem zm17_h : zm17.holds EE := ent_run envOk zcT_holds _ _ zm17_ok zm17_run
end Go.Proofs.YtgffhndedhbjlaaGreatDoor
