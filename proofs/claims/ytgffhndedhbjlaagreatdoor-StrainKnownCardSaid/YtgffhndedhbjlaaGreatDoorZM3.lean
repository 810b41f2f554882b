/- Known calls, part 3: what single calls hand back, at small heaps, by the kernel's own run of the evaluator. No conditions. -/
import Derived.Test.YtgffhndedhbjlaaGreatDoorZC
set_option linter.all false
namespace Go.Proofs.YtgffhndedhbjlaaGreatDoor
open Go.Ai
set_option maxRecDepth 1000000
-- (decani/strain.watch).trouble, 7643 steps
noncomputable def zm3 : Ent :=
  ⟨36, [.agg ⟨[.slice (some ⟨2, 0, none⟩) 2 2, .int .i64 (.ofNat 2), .int .i64 (.ofNat 3), .int .i64 (.ofNat 4), .int .i64 (.ofNat 4), .int .i64 (.ofNat 3), .int .i64 (.ofNat 4), .slice (some ⟨3, 0, none⟩) 4 4, .slice none 0 0, .slice none 0 0, .map (some 4), .slice (some ⟨5, 0, none⟩) 4 18446744073709551616]⟩], 6,
   [(0, .cells false 0 [.int .i64 (.ofNat 5), .int .i64 (.ofNat 3)]),
    (1, .cells false 0 [.int .i64 (.negSucc 0), .int .i64 (.negSucc 0), .int .i64 (.negSucc 0)]),
    (2, .cells true 0 [.int .i64 (.ofNat 10), .int .i64 (.ofNat 11), .int .i64 (.ofNat 8), .int .i64 (.ofNat 8)]),
    (3, .cells true 0 [.int .i64 (.ofNat 1), .int .i64 (.ofNat 1), .int .i64 (.ofNat 1), .int .i64 (.ofNat 0), .int .i64 (.ofNat 1), .int .i64 (.ofNat 1), .int .i64 (.ofNat 0), .int .i64 (.ofNat 1), .int .i64 (.ofNat 1), .int .i64 (.ofNat 2), .int .i64 (.ofNat 0), .int .i64 (.ofNat 1)]),
    (4, .map [⟨.agg ⟨[.int .i64 (.ofNat 1), .int .i64 (.ofNat 1)]⟩, .int .i64 (.ofNat 1), 0⟩] 1),
    (5, .cells true 7 [.int .i64 (.ofNat 2), .int .i64 (.ofNat 4), .int .i64 (.ofNat 3), .int .i64 (.ofNat 10), .int .i64 (.ofNat 8), .int .i64 (.ofNat 0), .int .i64 (.ofNat 2), .int .i64 (.ofNat 4), .int .i64 (.ofNat 4), .int .i64 (.ofNat 10), .int .i64 (.ofNat 8), .int .i64 (.ofNat 0), .int .i64 (.ofNat 3), .int .i64 (.ofNat 4), .int .i64 (.ofNat 3), .int .i64 (.ofNat 10), .int .i64 (.ofNat 8), .int .i64 (.ofNat 0), .int .i64 (.ofNat 3), .int .i64 (.ofNat 4), .int .i64 (.ofNat 4), .int .i64 (.ofNat 10), .int .i64 (.ofNat 8), .int .i64 (.ofNat 0)])],
   [],
   .agg ⟨[.int .i64 (.ofNat 2), .int .i64 (.ofNat 0)]⟩⟩
theorem zm3_ok : zm3.okS EE.G = true := by kernel_rfl
theorem zm3_run : evT EE zcT 1000000000 (.call zm3.f zm3.args) zm3.heap (keptK zm3) = some (.bool true) := by kernel_rfl
theorem zm3_h : zm3.holds EE := ent_run envOk zcT_holds _ _ zm3_ok zm3_run
-- (decani/strain.watch).trouble, 7634 steps
noncomputable def zm4 : Ent :=
  ⟨36, [.agg ⟨[.slice (some ⟨2, 0, none⟩) 2 2, .int .i64 (.ofNat 2), .int .i64 (.ofNat 3), .int .i64 (.ofNat 4), .int .i64 (.ofNat 4), .int .i64 (.ofNat 3), .int .i64 (.ofNat 4), .slice (some ⟨3, 0, none⟩) 4 4, .slice none 0 0, .slice none 0 0, .map (some 4), .slice (some ⟨5, 0, none⟩) 4 18446744073709551616]⟩], 6,
   [(0, .cells false 0 [.int .i64 (.ofNat 5), .int .i64 (.ofNat 3)]),
    (1, .cells false 0 [.int .i64 (.negSucc 0), .int .i64 (.negSucc 0), .int .i64 (.negSucc 0)]),
    (2, .cells true 0 [.int .i64 (.ofNat 10), .int .i64 (.ofNat 11), .int .i64 (.ofNat 8), .int .i64 (.ofNat 8)]),
    (3, .cells true 0 [.int .i64 (.ofNat 1), .int .i64 (.ofNat 1), .int .i64 (.ofNat 1), .int .i64 (.ofNat 0), .int .i64 (.ofNat 1), .int .i64 (.ofNat 1), .int .i64 (.ofNat 0), .int .i64 (.ofNat 1), .int .i64 (.ofNat 1), .int .i64 (.ofNat 2), .int .i64 (.ofNat 0), .int .i64 (.ofNat 1)]),
    (4, .map [⟨.agg ⟨[.int .i64 (.ofNat 0), .int .i64 (.ofNat 1)]⟩, .int .i64 (.ofNat 1), 0⟩] 1),
    (5, .cells true 7 [.int .i64 (.ofNat 2), .int .i64 (.ofNat 4), .int .i64 (.ofNat 3), .int .i64 (.ofNat 10), .int .i64 (.ofNat 8), .int .i64 (.ofNat 0), .int .i64 (.ofNat 2), .int .i64 (.ofNat 4), .int .i64 (.ofNat 4), .int .i64 (.ofNat 10), .int .i64 (.ofNat 8), .int .i64 (.ofNat 0), .int .i64 (.ofNat 3), .int .i64 (.ofNat 4), .int .i64 (.ofNat 3), .int .i64 (.ofNat 10), .int .i64 (.ofNat 8), .int .i64 (.ofNat 0), .int .i64 (.ofNat 3), .int .i64 (.ofNat 4), .int .i64 (.ofNat 4), .int .i64 (.ofNat 10), .int .i64 (.ofNat 8), .int .i64 (.ofNat 0)])],
   [],
   .agg ⟨[.int .i64 (.ofNat 2), .int .i64 (.ofNat 0)]⟩⟩
theorem zm4_ok : zm4.okS EE.G = true := by kernel_rfl
theorem zm4_run : evT EE zcT 1000000000 (.call zm4.f zm4.args) zm4.heap (keptK zm4) = some (.bool true) := by kernel_rfl
theorem zm4_h : zm4.holds EE := ent_run envOk zcT_holds _ _ zm4_ok zm4_run
-- (decani/strain.watch).trouble, 7293 steps
noncomputable def zm10 : Ent :=
  ⟨36, [.agg ⟨[.slice (some ⟨2, 0, none⟩) 2 2, .int .i64 (.ofNat 2), .int .i64 (.ofNat 3), .int .i64 (.ofNat 4), .int .i64 (.ofNat 4), .int .i64 (.ofNat 3), .int .i64 (.ofNat 4), .slice (some ⟨3, 0, none⟩) 4 4, .slice none 0 0, .slice none 0 0, .map (some 4), .slice (some ⟨5, 0, none⟩) 4 18446744073709551616]⟩], 6,
   [(0, .cells false 0 [.int .i64 (.ofNat 5), .int .i64 (.ofNat 3)]),
    (1, .cells false 0 [.int .i64 (.negSucc 0), .int .i64 (.negSucc 0), .int .i64 (.negSucc 0)]),
    (2, .cells true 0 [.int .i64 (.ofNat 10), .int .i64 (.ofNat 11), .int .i64 (.ofNat 8), .int .i64 (.ofNat 8)]),
    (3, .cells true 0 [.int .i64 (.ofNat 1), .int .i64 (.ofNat 1), .int .i64 (.ofNat 1), .int .i64 (.ofNat 0), .int .i64 (.ofNat 1), .int .i64 (.ofNat 2), .int .i64 (.ofNat 0), .int .i64 (.ofNat 1), .int .i64 (.ofNat 1), .int .i64 (.ofNat 2), .int .i64 (.ofNat 0), .int .i64 (.ofNat 1)]),
    (4, .map [⟨.agg ⟨[.int .i64 (.ofNat 0), .int .i64 (.ofNat 0)]⟩, .int .i64 (.ofNat 1), 0⟩] 1),
    (5, .cells true 7 [.int .i64 (.ofNat 2), .int .i64 (.ofNat 4), .int .i64 (.ofNat 3), .int .i64 (.ofNat 10), .int .i64 (.ofNat 8), .int .i64 (.ofNat 0), .int .i64 (.ofNat 2), .int .i64 (.ofNat 4), .int .i64 (.ofNat 4), .int .i64 (.ofNat 10), .int .i64 (.ofNat 8), .int .i64 (.ofNat 0), .int .i64 (.ofNat 3), .int .i64 (.ofNat 4), .int .i64 (.ofNat 3), .int .i64 (.ofNat 10), .int .i64 (.ofNat 8), .int .i64 (.ofNat 0), .int .i64 (.ofNat 3), .int .i64 (.ofNat 4), .int .i64 (.ofNat 4), .int .i64 (.ofNat 10), .int .i64 (.ofNat 8), .int .i64 (.ofNat 0)])],
   [],
   .agg ⟨[.int .i64 (.ofNat 2), .int .i64 (.ofNat 1)]⟩⟩
theorem zm10_ok : zm10.okS EE.G = true := by kernel_rfl
theorem zm10_run : evT EE zcT 1000000000 (.call zm10.f zm10.args) zm10.heap (keptK zm10) = some (.bool true) := by kernel_rfl
theorem zm10_h : zm10.holds EE := ent_run envOk zcT_holds _ _ zm10_ok zm10_run
-- (decani/strain.watch).trouble, 7173 steps
noncomputable def zm15 : Ent :=
  ⟨36, [.agg ⟨[.slice (some ⟨2, 0, none⟩) 2 2, .int .i64 (.ofNat 2), .int .i64 (.ofNat 3), .int .i64 (.ofNat 4), .int .i64 (.ofNat 4), .int .i64 (.ofNat 3), .int .i64 (.ofNat 4), .slice (some ⟨3, 0, none⟩) 4 4, .slice none 0 0, .slice none 0 0, .map (some 4), .slice (some ⟨5, 0, none⟩) 4 18446744073709551616]⟩], 6,
   [(0, .cells false 0 [.int .i64 (.ofNat 5), .int .i64 (.ofNat 3)]),
    (1, .cells false 0 [.int .i64 (.negSucc 0), .int .i64 (.negSucc 0), .int .i64 (.negSucc 0)]),
    (2, .cells true 0 [.int .i64 (.ofNat 10), .int .i64 (.ofNat 11), .int .i64 (.ofNat 8), .int .i64 (.ofNat 8)]),
    (3, .cells true 0 [.int .i64 (.ofNat 1), .int .i64 (.ofNat 1), .int .i64 (.ofNat 1), .int .i64 (.ofNat 0), .int .i64 (.ofNat 1), .int .i64 (.ofNat 1), .int .i64 (.ofNat 0), .int .i64 (.ofNat 1), .int .i64 (.ofNat 1), .int .i64 (.ofNat 2), .int .i64 (.ofNat 0), .int .i64 (.ofNat 1)]),
    (4, .map [⟨.agg ⟨[.int .i64 (.ofNat 0), .int .i64 (.ofNat 0)]⟩, .int .i64 (.ofNat 1), 0⟩, ⟨.agg ⟨[.int .i64 (.ofNat 1), .int .i64 (.ofNat 0)]⟩, .int .i64 (.ofNat 1), 1⟩, ⟨.agg ⟨[.int .i64 (.ofNat 2), .int .i64 (.ofNat 0)]⟩, .int .i64 (.ofNat 1), 2⟩] 3),
    (5, .cells true 7 [.int .i64 (.ofNat 2), .int .i64 (.ofNat 4), .int .i64 (.ofNat 3), .int .i64 (.ofNat 10), .int .i64 (.ofNat 8), .int .i64 (.ofNat 0), .int .i64 (.ofNat 2), .int .i64 (.ofNat 4), .int .i64 (.ofNat 4), .int .i64 (.ofNat 10), .int .i64 (.ofNat 8), .int .i64 (.ofNat 0), .int .i64 (.ofNat 3), .int .i64 (.ofNat 4), .int .i64 (.ofNat 3), .int .i64 (.ofNat 10), .int .i64 (.ofNat 8), .int .i64 (.ofNat 0), .int .i64 (.ofNat 3), .int .i64 (.ofNat 4), .int .i64 (.ofNat 4), .int .i64 (.ofNat 10), .int .i64 (.ofNat 8), .int .i64 (.ofNat 0)])],
   [],
   .agg ⟨[.int .i64 (.ofNat 2), .int .i64 (.ofNat 1)]⟩⟩
theorem zm15_ok : zm15.okS EE.G = true := by kernel_rfl
theorem zm15_run : evT EE zcT 1000000000 (.call zm15.f zm15.args) zm15.heap (keptK zm15) = some (.bool true) := by kernel_rfl
theorem zm15_h : zm15.holds EE := ent_run envOk zcT_holds _ _ zm15_ok zm15_run
-- (decani/strain.watch).trouble, 3973 steps
noncomputable def zm18 : Ent :=
  ⟨36, [.agg ⟨[.slice (some ⟨2, 0, none⟩) 2 2, .int .i64 (.ofNat 2), .int .i64 (.ofNat 3), .int .i64 (.ofNat 4), .int .i64 (.ofNat 4), .int .i64 (.ofNat 3), .int .i64 (.ofNat 4), .slice (some ⟨3, 0, none⟩) 4 4, .slice none 0 0, .slice (some ⟨4, 0, none⟩) 1 1, .map (some 5), .slice (some ⟨6, 0, none⟩) 2 18446744073709551616]⟩], 7,
   [(0, .cells false 0 [.int .i64 (.ofNat 5), .int .i64 (.ofNat 3)]),
    (1, .cells false 0 [.int .i64 (.negSucc 0), .int .i64 (.negSucc 0), .int .i64 (.negSucc 0)]),
    (2, .cells true 0 [.int .i64 (.ofNat 10), .int .i64 (.ofNat 11), .int .i64 (.ofNat 8), .int .i64 (.ofNat 8)]),
    (3, .cells true 0 [.int .i64 (.ofNat 1), .int .i64 (.ofNat 1), .int .i64 (.ofNat 1), .int .i64 (.ofNat 0), .int .i64 (.ofNat 1), .int .i64 (.ofNat 1), .int .i64 (.ofNat 0), .int .i64 (.ofNat 1), .int .i64 (.ofNat 1), .int .i64 (.ofNat 2), .int .i64 (.ofNat 0), .int .i64 (.ofNat 1)]),
    (4, .cells true 0 [.int .i64 (.ofNat 0), .int .i64 (.ofNat 0), .int .i64 (.ofNat 3), .int .i64 (.ofNat 0)]),
    (5, .map [⟨.agg ⟨[.int .i64 (.ofNat 2), .int .i64 (.ofNat 0)]⟩, .int .i64 (.ofNat 1), 0⟩] 1),
    (6, .cells true 7 [.int .i64 (.ofNat 3), .int .i64 (.ofNat 4), .int .i64 (.ofNat 3), .int .i64 (.ofNat 10), .int .i64 (.ofNat 8), .int .i64 (.ofNat 0), .int .i64 (.ofNat 3), .int .i64 (.ofNat 4), .int .i64 (.ofNat 4), .int .i64 (.ofNat 10), .int .i64 (.ofNat 8), .int .i64 (.ofNat 0)])],
   [],
   .agg ⟨[.int .i64 (.ofNat 2), .int .i64 (.ofNat 1)]⟩⟩
theorem zm18_ok : zm18.okS EE.G = true := by kernel_rfl
theorem zm18_run : evT EE zcT 1000000000 (.call zm18.f zm18.args) zm18.heap (keptK zm18) = some (.bool true) := by kernel_rfl
theorem zm18_h : zm18.holds EE := ent_run envOk zcT_holds _ _ zm18_ok zm18_run
-- (decani/strain.watch).trouble, 3941 steps
noncomputable def zm20 : Ent :=
  ⟨36, [.agg ⟨[.slice (some ⟨2, 0, none⟩) 2 2, .int .i64 (.ofNat 2), .int .i64 (.ofNat 3), .int .i64 (.ofNat 4), .int .i64 (.ofNat 4), .int .i64 (.ofNat 3), .int .i64 (.ofNat 4), .slice (some ⟨3, 0, none⟩) 4 4, .slice none 0 0, .slice (some ⟨4, 0, none⟩) 1 1, .map (some 5), .slice (some ⟨6, 0, none⟩) 2 18446744073709551616]⟩], 7,
   [(0, .cells false 0 [.int .i64 (.ofNat 5), .int .i64 (.ofNat 3)]),
    (1, .cells false 0 [.int .i64 (.negSucc 0), .int .i64 (.negSucc 0), .int .i64 (.negSucc 0)]),
    (2, .cells true 0 [.int .i64 (.ofNat 10), .int .i64 (.ofNat 11), .int .i64 (.ofNat 8), .int .i64 (.ofNat 8)]),
    (3, .cells true 0 [.int .i64 (.ofNat 1), .int .i64 (.ofNat 1), .int .i64 (.ofNat 1), .int .i64 (.ofNat 0), .int .i64 (.ofNat 1), .int .i64 (.ofNat 1), .int .i64 (.ofNat 0), .int .i64 (.ofNat 1), .int .i64 (.ofNat 1), .int .i64 (.ofNat 2), .int .i64 (.ofNat 0), .int .i64 (.ofNat 1)]),
    (4, .cells true 0 [.int .i64 (.ofNat 0), .int .i64 (.ofNat 0), .int .i64 (.ofNat 3), .int .i64 (.ofNat 0)]),
    (5, .map [⟨.agg ⟨[.int .i64 (.ofNat 1), .int .i64 (.ofNat 0)]⟩, .int .i64 (.ofNat 1), 0⟩, ⟨.agg ⟨[.int .i64 (.ofNat 2), .int .i64 (.ofNat 0)]⟩, .int .i64 (.ofNat 1), 1⟩] 2),
    (6, .cells true 7 [.int .i64 (.ofNat 3), .int .i64 (.ofNat 4), .int .i64 (.ofNat 3), .int .i64 (.ofNat 10), .int .i64 (.ofNat 8), .int .i64 (.ofNat 0), .int .i64 (.ofNat 3), .int .i64 (.ofNat 4), .int .i64 (.ofNat 4), .int .i64 (.ofNat 10), .int .i64 (.ofNat 8), .int .i64 (.ofNat 0)])],
   [],
   .agg ⟨[.int .i64 (.ofNat 2), .int .i64 (.ofNat 1)]⟩⟩
theorem zm20_ok : zm20.okS EE.G = true := by kernel_rfl
theorem zm20_run : evT EE zcT 1000000000 (.call zm20.f zm20.args) zm20.heap (keptK zm20) = some (.bool true) := by kernel_rfl
theorem zm20_h : zm20.holds EE := ent_run envOk zcT_holds _ _ zm20_ok zm20_run
end Go.Proofs.YtgffhndedhbjlaaGreatDoor
