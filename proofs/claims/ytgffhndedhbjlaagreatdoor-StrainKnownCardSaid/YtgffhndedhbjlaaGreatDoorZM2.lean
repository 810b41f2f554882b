/- Known calls, part 2: what single calls hand back, at small heaps, by the kernel's own run of the evaluator. No conditions. -/
import Derived.Test.YtgffhndedhbjlaaGreatDoorZC
set_option linter.all false
namespace Go.Proofs.YtgffhndedhbjlaaGreatDoor
open Go.Ai
set_option maxRecDepth 1000000
-- (decani/strain.watch).trouble, 7658 steps
noncomputable def zm2 : Ent :=
  ⟨36, [.agg ⟨[.slice (some ⟨2, 0, none⟩) 2 2, .int .i64 (.ofNat 2), .int .i64 (.ofNat 3), .int .i64 (.ofNat 4), .int .i64 (.ofNat 4), .int .i64 (.ofNat 3), .int .i64 (.ofNat 4), .slice (some ⟨3, 0, none⟩) 4 4, .slice none 0 0, .slice none 0 0, .map (some 4), .slice (some ⟨5, 0, none⟩) 4 18446744073709551616]⟩], 6,
   [(0, .cells false 0 [.int .i64 (.ofNat 5), .int .i64 (.ofNat 3)]),
    (1, .cells false 0 [.int .i64 (.negSucc 0), .int .i64 (.negSucc 0), .int .i64 (.negSucc 0)]),
    (2, .cells true 0 [.int .i64 (.ofNat 10), .int .i64 (.ofNat 11), .int .i64 (.ofNat 8), .int .i64 (.ofNat 8)]),
    (3, .cells true 0 [.int .i64 (.ofNat 1), .int .i64 (.ofNat 1), .int .i64 (.ofNat 1), .int .i64 (.ofNat 0), .int .i64 (.ofNat 1), .int .i64 (.ofNat 1), .int .i64 (.ofNat 0), .int .i64 (.ofNat 1), .int .i64 (.ofNat 1), .int .i64 (.ofNat 2), .int .i64 (.ofNat 0), .int .i64 (.ofNat 1)]),
    (4, .map [⟨.agg ⟨[.int .i64 (.ofNat 0), .int .i64 (.ofNat 0)]⟩, .int .i64 (.ofNat 1), 0⟩, ⟨.agg ⟨[.int .i64 (.ofNat 1), .int .i64 (.ofNat 0)]⟩, .int .i64 (.ofNat 1), 1⟩, ⟨.agg ⟨[.int .i64 (.ofNat 2), .int .i64 (.ofNat 1)]⟩, .int .i64 (.ofNat 1), 2⟩] 3),
    (5, .cells true 7 [.int .i64 (.ofNat 2), .int .i64 (.ofNat 4), .int .i64 (.ofNat 3), .int .i64 (.ofNat 10), .int .i64 (.ofNat 8), .int .i64 (.ofNat 0), .int .i64 (.ofNat 2), .int .i64 (.ofNat 4), .int .i64 (.ofNat 4), .int .i64 (.ofNat 10), .int .i64 (.ofNat 8), .int .i64 (.ofNat 0), .int .i64 (.ofNat 3), .int .i64 (.ofNat 4), .int .i64 (.ofNat 3), .int .i64 (.ofNat 10), .int .i64 (.ofNat 8), .int .i64 (.ofNat 0), .int .i64 (.ofNat 3), .int .i64 (.ofNat 4), .int .i64 (.ofNat 4), .int .i64 (.ofNat 10), .int .i64 (.ofNat 8), .int .i64 (.ofNat 0)])],
   [],
   .agg ⟨[.int .i64 (.ofNat 5), .int .i64 (.ofNat 3)]⟩⟩
theorem zm2_ok : zm2.okS EE.G = true := by kernel_rfl
theorem zm2_run : evT EE zcT 1000000000 (.call zm2.f zm2.args) zm2.heap (keptK zm2) = some (.bool true) := by kernel_rfl
theorem zm2_h : zm2.holds EE := ent_run envOk zcT_holds _ _ zm2_ok zm2_run
-- (decani/strain.watch).trouble, 7634 steps
noncomputable def zm5 : Ent :=
  ⟨36, [.agg ⟨[.slice (some ⟨2, 0, none⟩) 2 2, .int .i64 (.ofNat 2), .int .i64 (.ofNat 3), .int .i64 (.ofNat 4), .int .i64 (.ofNat 4), .int .i64 (.ofNat 3), .int .i64 (.ofNat 4), .slice (some ⟨3, 0, none⟩) 4 4, .slice none 0 0, .slice none 0 0, .map (some 4), .slice (some ⟨5, 0, none⟩) 4 18446744073709551616]⟩], 6,
   [(0, .cells false 0 [.int .i64 (.ofNat 5), .int .i64 (.ofNat 3)]),
    (1, .cells false 0 [.int .i64 (.negSucc 0), .int .i64 (.negSucc 0), .int .i64 (.negSucc 0)]),
    (2, .cells true 0 [.int .i64 (.ofNat 10), .int .i64 (.ofNat 11), .int .i64 (.ofNat 8), .int .i64 (.ofNat 8)]),
    (3, .cells true 0 [.int .i64 (.ofNat 1), .int .i64 (.ofNat 1), .int .i64 (.ofNat 1), .int .i64 (.ofNat 0), .int .i64 (.ofNat 1), .int .i64 (.ofNat 2), .int .i64 (.ofNat 0), .int .i64 (.ofNat 1), .int .i64 (.ofNat 1), .int .i64 (.ofNat 2), .int .i64 (.ofNat 0), .int .i64 (.ofNat 1)]),
    (4, .map [⟨.agg ⟨[.int .i64 (.ofNat 0), .int .i64 (.ofNat 1)]⟩, .int .i64 (.ofNat 1), 0⟩] 1),
    (5, .cells true 7 [.int .i64 (.ofNat 2), .int .i64 (.ofNat 4), .int .i64 (.ofNat 3), .int .i64 (.ofNat 10), .int .i64 (.ofNat 8), .int .i64 (.ofNat 0), .int .i64 (.ofNat 2), .int .i64 (.ofNat 4), .int .i64 (.ofNat 4), .int .i64 (.ofNat 10), .int .i64 (.ofNat 8), .int .i64 (.ofNat 0), .int .i64 (.ofNat 3), .int .i64 (.ofNat 4), .int .i64 (.ofNat 3), .int .i64 (.ofNat 10), .int .i64 (.ofNat 8), .int .i64 (.ofNat 0), .int .i64 (.ofNat 3), .int .i64 (.ofNat 4), .int .i64 (.ofNat 4), .int .i64 (.ofNat 10), .int .i64 (.ofNat 8), .int .i64 (.ofNat 0)])],
   [],
   .agg ⟨[.int .i64 (.ofNat 2), .int .i64 (.ofNat 0)]⟩⟩
theorem zm5_ok : zm5.okS EE.G = true := by kernel_rfl
theorem zm5_run : evT EE zcT 1000000000 (.call zm5.f zm5.args) zm5.heap (keptK zm5) = some (.bool true) := by kernel_rfl
theorem zm5_h : zm5.holds EE := ent_run envOk zcT_holds _ _ zm5_ok zm5_run
-- (decani/strain.watch).trouble, 7233 steps
noncomputable def zm11 : Ent :=
  ⟨36, [.agg ⟨[.slice (some ⟨2, 0, none⟩) 2 2, .int .i64 (.ofNat 2), .int .i64 (.ofNat 3), .int .i64 (.ofNat 4), .int .i64 (.ofNat 4), .int .i64 (.ofNat 3), .int .i64 (.ofNat 4), .slice (some ⟨3, 0, none⟩) 4 4, .slice none 0 0, .slice none 0 0, .map (some 4), .slice (some ⟨5, 0, none⟩) 4 18446744073709551616]⟩], 6,
   [(0, .cells false 0 [.int .i64 (.ofNat 5), .int .i64 (.ofNat 3)]),
    (1, .cells false 0 [.int .i64 (.negSucc 0), .int .i64 (.negSucc 0), .int .i64 (.negSucc 0)]),
    (2, .cells true 0 [.int .i64 (.ofNat 10), .int .i64 (.ofNat 11), .int .i64 (.ofNat 8), .int .i64 (.ofNat 8)]),
    (3, .cells true 0 [.int .i64 (.ofNat 1), .int .i64 (.ofNat 1), .int .i64 (.ofNat 1), .int .i64 (.ofNat 0), .int .i64 (.ofNat 1), .int .i64 (.ofNat 1), .int .i64 (.ofNat 0), .int .i64 (.ofNat 1), .int .i64 (.ofNat 1), .int .i64 (.ofNat 2), .int .i64 (.ofNat 0), .int .i64 (.ofNat 1)]),
    (4, .map [⟨.agg ⟨[.int .i64 (.ofNat 0), .int .i64 (.ofNat 0)]⟩, .int .i64 (.ofNat 1), 0⟩, ⟨.agg ⟨[.int .i64 (.ofNat 1), .int .i64 (.ofNat 0)]⟩, .int .i64 (.ofNat 1), 1⟩] 2),
    (5, .cells true 7 [.int .i64 (.ofNat 2), .int .i64 (.ofNat 4), .int .i64 (.ofNat 3), .int .i64 (.ofNat 10), .int .i64 (.ofNat 8), .int .i64 (.ofNat 0), .int .i64 (.ofNat 2), .int .i64 (.ofNat 4), .int .i64 (.ofNat 4), .int .i64 (.ofNat 10), .int .i64 (.ofNat 8), .int .i64 (.ofNat 0), .int .i64 (.ofNat 3), .int .i64 (.ofNat 4), .int .i64 (.ofNat 3), .int .i64 (.ofNat 10), .int .i64 (.ofNat 8), .int .i64 (.ofNat 0), .int .i64 (.ofNat 3), .int .i64 (.ofNat 4), .int .i64 (.ofNat 4), .int .i64 (.ofNat 10), .int .i64 (.ofNat 8), .int .i64 (.ofNat 0)])],
   [],
   .agg ⟨[.int .i64 (.ofNat 2), .int .i64 (.ofNat 1)]⟩⟩
theorem zm11_ok : zm11.okS EE.G = true := by kernel_rfl
theorem zm11_run : evT EE zcT 1000000000 (.call zm11.f zm11.args) zm11.heap (keptK zm11) = some (.bool true) := by kernel_rfl
theorem zm11_h : zm11.holds EE := ent_run envOk zcT_holds _ _ zm11_ok zm11_run
-- (decani/strain.watch).trouble, 7222 steps
noncomputable def zm14 : Ent :=
  ⟨36, [.agg ⟨[.slice (some ⟨2, 0, none⟩) 2 2, .int .i64 (.ofNat 2), .int .i64 (.ofNat 3), .int .i64 (.ofNat 4), .int .i64 (.ofNat 4), .int .i64 (.ofNat 3), .int .i64 (.ofNat 4), .slice (some ⟨3, 0, none⟩) 4 4, .slice none 0 0, .slice none 0 0, .map (some 4), .slice (some ⟨5, 0, none⟩) 4 18446744073709551616]⟩], 6,
   [(0, .cells false 0 [.int .i64 (.ofNat 5), .int .i64 (.ofNat 3)]),
    (1, .cells false 0 [.int .i64 (.negSucc 0), .int .i64 (.negSucc 0), .int .i64 (.negSucc 0)]),
    (2, .cells true 0 [.int .i64 (.ofNat 10), .int .i64 (.ofNat 11), .int .i64 (.ofNat 8), .int .i64 (.ofNat 8)]),
    (3, .cells true 0 [.int .i64 (.ofNat 1), .int .i64 (.ofNat 1), .int .i64 (.ofNat 1), .int .i64 (.ofNat 0), .int .i64 (.ofNat 1), .int .i64 (.ofNat 2), .int .i64 (.ofNat 0), .int .i64 (.ofNat 1), .int .i64 (.ofNat 1), .int .i64 (.ofNat 2), .int .i64 (.ofNat 0), .int .i64 (.ofNat 1)]),
    (4, .map [] 0),
    (5, .cells true 7 [.int .i64 (.ofNat 2), .int .i64 (.ofNat 4), .int .i64 (.ofNat 3), .int .i64 (.ofNat 10), .int .i64 (.ofNat 8), .int .i64 (.ofNat 0), .int .i64 (.ofNat 2), .int .i64 (.ofNat 4), .int .i64 (.ofNat 4), .int .i64 (.ofNat 10), .int .i64 (.ofNat 8), .int .i64 (.ofNat 0), .int .i64 (.ofNat 3), .int .i64 (.ofNat 4), .int .i64 (.ofNat 3), .int .i64 (.ofNat 10), .int .i64 (.ofNat 8), .int .i64 (.ofNat 0), .int .i64 (.ofNat 3), .int .i64 (.ofNat 4), .int .i64 (.ofNat 4), .int .i64 (.ofNat 10), .int .i64 (.ofNat 8), .int .i64 (.ofNat 0)])],
   [],
   .agg ⟨[.int .i64 (.ofNat 2), .int .i64 (.ofNat 0)]⟩⟩
theorem zm14_ok : zm14.okS EE.G = true := by kernel_rfl
theorem zm14_run : evT EE zcT 1000000000 (.call zm14.f zm14.args) zm14.heap (keptK zm14) = some (.bool true) := by kernel_rfl
theorem zm14_h : zm14.holds EE := ent_run envOk zcT_holds _ _ zm14_ok zm14_run
-- (decani/strain.watch).trouble, 3970 steps
noncomputable def zm19 : Ent :=
  ⟨36, [.agg ⟨[.slice (some ⟨2, 0, none⟩) 2 2, .int .i64 (.ofNat 2), .int .i64 (.ofNat 3), .int .i64 (.ofNat 4), .int .i64 (.ofNat 4), .int .i64 (.ofNat 3), .int .i64 (.ofNat 4), .slice (some ⟨3, 0, none⟩) 4 4, .slice none 0 0, .slice (some ⟨4, 0, none⟩) 1 1, .map (some 5), .slice (some ⟨6, 0, none⟩) 2 18446744073709551616]⟩], 7,
   [(0, .cells false 0 [.int .i64 (.ofNat 5), .int .i64 (.ofNat 3)]),
    (1, .cells false 0 [.int .i64 (.negSucc 0), .int .i64 (.negSucc 0), .int .i64 (.negSucc 0)]),
    (2, .cells true 0 [.int .i64 (.ofNat 10), .int .i64 (.ofNat 11), .int .i64 (.ofNat 8), .int .i64 (.ofNat 8)]),
    (3, .cells true 0 [.int .i64 (.ofNat 1), .int .i64 (.ofNat 1), .int .i64 (.ofNat 1), .int .i64 (.ofNat 0), .int .i64 (.ofNat 1), .int .i64 (.ofNat 1), .int .i64 (.ofNat 0), .int .i64 (.ofNat 1), .int .i64 (.ofNat 1), .int .i64 (.ofNat 2), .int .i64 (.ofNat 0), .int .i64 (.ofNat 1)]),
    (4, .cells true 0 [.int .i64 (.ofNat 0), .int .i64 (.ofNat 0), .int .i64 (.ofNat 3), .int .i64 (.ofNat 0)]),
    (5, .map [⟨.agg ⟨[.int .i64 (.ofNat 1), .int .i64 (.ofNat 0)]⟩, .int .i64 (.ofNat 1), 0⟩] 1),
    (6, .cells true 7 [.int .i64 (.ofNat 3), .int .i64 (.ofNat 4), .int .i64 (.ofNat 3), .int .i64 (.ofNat 10), .int .i64 (.ofNat 8), .int .i64 (.ofNat 0), .int .i64 (.ofNat 3), .int .i64 (.ofNat 4), .int .i64 (.ofNat 4), .int .i64 (.ofNat 10), .int .i64 (.ofNat 8), .int .i64 (.ofNat 0)])],
   [],
   .agg ⟨[.int .i64 (.ofNat 2), .int .i64 (.ofNat 1)]⟩⟩
theorem zm19_ok : zm19.okS EE.G = true := by kernel_rfl
theorem zm19_run : evT EE zcT 1000000000 (.call zm19.f zm19.args) zm19.heap (keptK zm19) = some (.bool true) := by kernel_rfl
theorem zm19_h : zm19.holds EE := ent_run envOk zcT_holds _ _ zm19_ok zm19_run
-- (decani/strain.watch).trouble, 3850 steps
noncomputable def zm21 : Ent :=
  ⟨36, [.agg ⟨[.slice (some ⟨2, 0, none⟩) 2 2, .int .i64 (.ofNat 2), .int .i64 (.ofNat 3), .int .i64 (.ofNat 4), .int .i64 (.ofNat 4), .int .i64 (.ofNat 3), .int .i64 (.ofNat 4), .slice (some ⟨3, 0, none⟩) 4 4, .slice none 0 0, .slice (some ⟨4, 0, none⟩) 1 1, .map (some 5), .slice (some ⟨6, 0, none⟩) 2 18446744073709551616]⟩], 7,
   [(0, .cells false 0 [.int .i64 (.ofNat 5), .int .i64 (.ofNat 3)]),
    (1, .cells false 0 [.int .i64 (.negSucc 0), .int .i64 (.negSucc 0), .int .i64 (.negSucc 0)]),
    (2, .cells true 0 [.int .i64 (.ofNat 10), .int .i64 (.ofNat 11), .int .i64 (.ofNat 8), .int .i64 (.ofNat 8)]),
    (3, .cells true 0 [.int .i64 (.ofNat 1), .int .i64 (.ofNat 1), .int .i64 (.ofNat 1), .int .i64 (.ofNat 0), .int .i64 (.ofNat 1), .int .i64 (.ofNat 1), .int .i64 (.ofNat 0), .int .i64 (.ofNat 1), .int .i64 (.ofNat 1), .int .i64 (.ofNat 2), .int .i64 (.ofNat 0), .int .i64 (.ofNat 1)]),
    (4, .cells true 0 [.int .i64 (.ofNat 0), .int .i64 (.ofNat 0), .int .i64 (.ofNat 3), .int .i64 (.ofNat 0)]),
    (5, .map [] 0),
    (6, .cells true 7 [.int .i64 (.ofNat 3), .int .i64 (.ofNat 4), .int .i64 (.ofNat 3), .int .i64 (.ofNat 10), .int .i64 (.ofNat 8), .int .i64 (.ofNat 0), .int .i64 (.ofNat 3), .int .i64 (.ofNat 4), .int .i64 (.ofNat 4), .int .i64 (.ofNat 10), .int .i64 (.ofNat 8), .int .i64 (.ofNat 0)])],
   [],
   .agg ⟨[.int .i64 (.ofNat 2), .int .i64 (.ofNat 0)]⟩⟩
theorem zm21_ok : zm21.okS EE.G = true := by kernel_rfl
theorem zm21_run : evT EE zcT 1000000000 (.call zm21.f zm21.args) zm21.heap (keptK zm21) = some (.bool true) := by kernel_rfl
theorem zm21_h : zm21.holds EE := ent_run envOk zcT_holds _ _ zm21_ok zm21_run
end Go.Proofs.YtgffhndedhbjlaaGreatDoor
