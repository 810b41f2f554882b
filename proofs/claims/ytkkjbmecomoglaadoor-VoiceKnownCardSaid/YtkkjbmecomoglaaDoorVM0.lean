/- Known calls, part 0: what single calls hand back, at small heaps, by the kernel's own run of the evaluator. No conditions. -/
import Derived.Test.YtkkjbmecomoglaaDoorEnv
set_option linter.all false
namespace Go.Proofs.YtkkjbmecomoglaaDoor
open Go.Ai
set_option maxRecDepth 1000000
-- slices.MinFunc[[][]int,[]int], 17731 steps
noncomputable def vm0 : Ent :=
  ⟨128, [.slice (some ⟨3, 0, none⟩) 48 18446744073709551616, .func (.func 129) ⟨[]⟩ ⟨[]⟩], 52,
   [(0, .dead),
    (1, .cells false 0 [.int .i64 (.negSucc 0), .int .i64 (.negSucc 0), .int .i64 (.negSucc 0), .int .i64 (.negSucc 0), .int .i64 (.negSucc 0)]),
    (2, .cells false 0 [.int .i64 (.ofNat 40), .int .i64 (.ofNat 2), .int .i64 (.ofNat 40), .int .i64 (.ofNat 2), .int .i64 (.ofNat 2), .int .i64 (.ofNat 1), .int .i64 (.ofNat 6), .int .i64 (.ofNat 2), .int .i64 (.ofNat 9), .int .i64 (.ofNat 3)]),
    (3, .cells true 2 [.slice (some ⟨4, 0, none⟩) 1 18446744073709551616, .slice (some ⟨5, 0, none⟩) 1 18446744073709551616, .slice (some ⟨6, 0, none⟩) 1 18446744073709551616, .slice (some ⟨7, 0, none⟩) 1 18446744073709551616, .slice (some ⟨8, 0, none⟩) 1 18446744073709551616, .slice (some ⟨9, 0, none⟩) 1 18446744073709551616, .slice (some ⟨10, 0, none⟩) 1 18446744073709551616, .slice (some ⟨11, 0, none⟩) 1 18446744073709551616, .slice (some ⟨12, 0, none⟩) 1 18446744073709551616, .slice (some ⟨13, 0, none⟩) 1 18446744073709551616, .slice (some ⟨14, 0, none⟩) 1 18446744073709551616, .slice (some ⟨15, 0, none⟩) 1 18446744073709551616, .slice (some ⟨16, 0, none⟩) 1 18446744073709551616, .slice (some ⟨17, 0, none⟩) 1 18446744073709551616, .slice (some ⟨18, 0, none⟩) 1 18446744073709551616, .slice (some ⟨19, 0, none⟩) 1 18446744073709551616, .slice (some ⟨20, 0, none⟩) 1 18446744073709551616, .slice (some ⟨21, 0, none⟩) 1 18446744073709551616, .slice (some ⟨22, 0, none⟩) 1 18446744073709551616, .slice (some ⟨23, 0, none⟩) 1 18446744073709551616, .slice (some ⟨24, 0, none⟩) 1 18446744073709551616, .slice (some ⟨25, 0, none⟩) 1 18446744073709551616, .slice (some ⟨26, 0, none⟩) 1 18446744073709551616, .slice (some ⟨27, 0, none⟩) 1 18446744073709551616, .slice (some ⟨28, 0, none⟩) 1 18446744073709551616, .slice (some ⟨29, 0, none⟩) 1 18446744073709551616, .slice (some ⟨30, 0, none⟩) 1 18446744073709551616, .slice (some ⟨31, 0, none⟩) 1 18446744073709551616, .slice (some ⟨32, 0, none⟩) 1 18446744073709551616, .slice (some ⟨33, 0, none⟩) 1 18446744073709551616, .slice (some ⟨34, 0, none⟩) 1 18446744073709551616, .slice (some ⟨35, 0, none⟩) 1 18446744073709551616, .slice (some ⟨36, 0, none⟩) 1 18446744073709551616, .slice (some ⟨37, 0, none⟩) 1 18446744073709551616, .slice (some ⟨38, 0, none⟩) 1 18446744073709551616, .slice (some ⟨39, 0, none⟩) 1 18446744073709551616, .slice (some ⟨40, 0, none⟩) 1 18446744073709551616, .slice (some ⟨41, 0, none⟩) 1 18446744073709551616, .slice (some ⟨42, 0, none⟩) 1 18446744073709551616, .slice (some ⟨43, 0, none⟩) 1 18446744073709551616, .slice (some ⟨44, 0, none⟩) 1 18446744073709551616, .slice (some ⟨45, 0, none⟩) 1 18446744073709551616, .slice (some ⟨46, 0, none⟩) 1 18446744073709551616, .slice (some ⟨47, 0, none⟩) 1 18446744073709551616, .slice (some ⟨48, 0, none⟩) 1 18446744073709551616, .slice (some ⟨49, 0, none⟩) 1 18446744073709551616, .slice (some ⟨50, 0, none⟩) 1 18446744073709551616, .slice (some ⟨51, 0, none⟩) 1 18446744073709551616]),
    (4, .cells true 2 [.int .i64 (.ofNat 1)]),
    (5, .cells true 2 [.int .i64 (.ofNat 0)]),
    (6, .cells true 2 [.int .i64 (.ofNat 0)]),
    (7, .cells true 2 [.int .i64 (.ofNat 1)]),
    (8, .cells true 2 [.int .i64 (.ofNat 0)]),
    (9, .cells true 2 [.int .i64 (.ofNat 0)]),
    (10, .cells true 2 [.int .i64 (.ofNat 1)]),
    (11, .cells true 2 [.int .i64 (.ofNat 0)]),
    (12, .cells true 2 [.int .i64 (.ofNat 0)]),
    (13, .cells true 2 [.int .i64 (.ofNat 1)]),
    (14, .cells true 2 [.int .i64 (.ofNat 0)]),
    (15, .cells true 2 [.int .i64 (.ofNat 0)]),
    (16, .cells true 2 [.int .i64 (.ofNat 1)]),
    (17, .cells true 2 [.int .i64 (.ofNat 0)]),
    (18, .cells true 2 [.int .i64 (.ofNat 0)]),
    (19, .cells true 2 [.int .i64 (.ofNat 1)]),
    (20, .cells true 2 [.int .i64 (.ofNat 0)]),
    (21, .cells true 2 [.int .i64 (.ofNat 0)]),
    (22, .cells true 2 [.int .i64 (.ofNat 1)]),
    (23, .cells true 2 [.int .i64 (.ofNat 0)]),
    (24, .cells true 2 [.int .i64 (.ofNat 0)]),
    (25, .cells true 2 [.int .i64 (.ofNat 1)]),
    (26, .cells true 2 [.int .i64 (.ofNat 0)]),
    (27, .cells true 2 [.int .i64 (.ofNat 0)]),
    (28, .cells true 2 [.int .i64 (.ofNat 1)]),
    (29, .cells true 2 [.int .i64 (.ofNat 0)]),
    (30, .cells true 2 [.int .i64 (.ofNat 0)]),
    (31, .cells true 2 [.int .i64 (.ofNat 1)]),
    (32, .cells true 2 [.int .i64 (.ofNat 0)]),
    (33, .cells true 2 [.int .i64 (.ofNat 0)]),
    (34, .cells true 2 [.int .i64 (.ofNat 1)]),
    (35, .cells true 2 [.int .i64 (.ofNat 0)]),
    (36, .cells true 2 [.int .i64 (.ofNat 0)]),
    (37, .cells true 2 [.int .i64 (.ofNat 1)]),
    (38, .cells true 2 [.int .i64 (.ofNat 0)]),
    (39, .cells true 2 [.int .i64 (.ofNat 0)]),
    (40, .cells true 2 [.int .i64 (.ofNat 1)]),
    (41, .cells true 2 [.int .i64 (.ofNat 0)]),
    (42, .cells true 2 [.int .i64 (.ofNat 0)]),
    (43, .cells true 2 [.int .i64 (.ofNat 1)]),
    (44, .cells true 2 [.int .i64 (.ofNat 0)]),
    (45, .cells true 2 [.int .i64 (.ofNat 0)]),
    (46, .cells true 2 [.int .i64 (.ofNat 1)]),
    (47, .cells true 2 [.int .i64 (.ofNat 0)]),
    (48, .cells true 2 [.int .i64 (.ofNat 0)]),
    (49, .cells true 2 [.int .i64 (.ofNat 1)]),
    (50, .cells true 2 [.int .i64 (.ofNat 0)]),
    (51, .cells true 2 [.int .i64 (.ofNat 0)])],
   [],
   .slice (some ⟨5, 0, none⟩) 1 18446744073709551616⟩
theorem vm0_ok : vm0.okS EE.G = true := by kernel_rfl
theorem vm0_run : evT EE [] 1000000000 (.call vm0.f vm0.args) vm0.heap (keptK vm0) = some (.bool true) := by kernel_rfl
theorem vm0_h : vm0.holds EE := ent_run envOk (fun _ h => by cases h) _ _ vm0_ok vm0_run
-- slices.MinFunc[[][]int,[]int], 10940 steps
noncomputable def vm1 : Ent :=
  ⟨128, [.slice (some ⟨3, 0, none⟩) 48 18446744073709551616, .func (.func 129) ⟨[]⟩ ⟨[]⟩], 36,
   [(0, .dead),
    (1, .cells false 0 [.int .i64 (.negSucc 0), .int .i64 (.negSucc 0), .int .i64 (.negSucc 0), .int .i64 (.negSucc 0), .int .i64 (.negSucc 0)]),
    (2, .cells false 0 [.int .i64 (.ofNat 40), .int .i64 (.ofNat 2), .int .i64 (.ofNat 40), .int .i64 (.ofNat 2), .int .i64 (.ofNat 2), .int .i64 (.ofNat 1), .int .i64 (.ofNat 6), .int .i64 (.ofNat 2), .int .i64 (.ofNat 9), .int .i64 (.ofNat 3)]),
    (3, .cells true 2 [.slice none 0 0, .slice (some ⟨4, 0, none⟩) 1 18446744073709551616, .slice (some ⟨5, 0, none⟩) 1 18446744073709551616, .slice none 0 0, .slice (some ⟨6, 0, none⟩) 1 18446744073709551616, .slice (some ⟨7, 0, none⟩) 1 18446744073709551616, .slice none 0 0, .slice (some ⟨8, 0, none⟩) 1 18446744073709551616, .slice (some ⟨9, 0, none⟩) 1 18446744073709551616, .slice none 0 0, .slice (some ⟨10, 0, none⟩) 1 18446744073709551616, .slice (some ⟨11, 0, none⟩) 1 18446744073709551616, .slice none 0 0, .slice (some ⟨12, 0, none⟩) 1 18446744073709551616, .slice (some ⟨13, 0, none⟩) 1 18446744073709551616, .slice none 0 0, .slice (some ⟨14, 0, none⟩) 1 18446744073709551616, .slice (some ⟨15, 0, none⟩) 1 18446744073709551616, .slice none 0 0, .slice (some ⟨16, 0, none⟩) 1 18446744073709551616, .slice (some ⟨17, 0, none⟩) 1 18446744073709551616, .slice none 0 0, .slice (some ⟨18, 0, none⟩) 1 18446744073709551616, .slice (some ⟨19, 0, none⟩) 1 18446744073709551616, .slice none 0 0, .slice (some ⟨20, 0, none⟩) 1 18446744073709551616, .slice (some ⟨21, 0, none⟩) 1 18446744073709551616, .slice none 0 0, .slice (some ⟨22, 0, none⟩) 1 18446744073709551616, .slice (some ⟨23, 0, none⟩) 1 18446744073709551616, .slice none 0 0, .slice (some ⟨24, 0, none⟩) 1 18446744073709551616, .slice (some ⟨25, 0, none⟩) 1 18446744073709551616, .slice none 0 0, .slice (some ⟨26, 0, none⟩) 1 18446744073709551616, .slice (some ⟨27, 0, none⟩) 1 18446744073709551616, .slice none 0 0, .slice (some ⟨28, 0, none⟩) 1 18446744073709551616, .slice (some ⟨29, 0, none⟩) 1 18446744073709551616, .slice none 0 0, .slice (some ⟨30, 0, none⟩) 1 18446744073709551616, .slice (some ⟨31, 0, none⟩) 1 18446744073709551616, .slice none 0 0, .slice (some ⟨32, 0, none⟩) 1 18446744073709551616, .slice (some ⟨33, 0, none⟩) 1 18446744073709551616, .slice none 0 0, .slice (some ⟨34, 0, none⟩) 1 18446744073709551616, .slice (some ⟨35, 0, none⟩) 1 18446744073709551616]),
    (4, .cells true 2 [.int .i64 (.ofNat 0)]),
    (5, .cells true 2 [.int .i64 (.ofNat 0)]),
    (6, .cells true 2 [.int .i64 (.ofNat 0)]),
    (7, .cells true 2 [.int .i64 (.ofNat 0)]),
    (8, .cells true 2 [.int .i64 (.ofNat 0)]),
    (9, .cells true 2 [.int .i64 (.ofNat 0)]),
    (10, .cells true 2 [.int .i64 (.ofNat 0)]),
    (11, .cells true 2 [.int .i64 (.ofNat 0)]),
    (12, .cells true 2 [.int .i64 (.ofNat 0)]),
    (13, .cells true 2 [.int .i64 (.ofNat 0)]),
    (14, .cells true 2 [.int .i64 (.ofNat 0)]),
    (15, .cells true 2 [.int .i64 (.ofNat 0)]),
    (16, .cells true 2 [.int .i64 (.ofNat 0)]),
    (17, .cells true 2 [.int .i64 (.ofNat 0)]),
    (18, .cells true 2 [.int .i64 (.ofNat 0)]),
    (19, .cells true 2 [.int .i64 (.ofNat 0)]),
    (20, .cells true 2 [.int .i64 (.ofNat 0)]),
    (21, .cells true 2 [.int .i64 (.ofNat 0)]),
    (22, .cells true 2 [.int .i64 (.ofNat 0)]),
    (23, .cells true 2 [.int .i64 (.ofNat 0)]),
    (24, .cells true 2 [.int .i64 (.ofNat 0)]),
    (25, .cells true 2 [.int .i64 (.ofNat 0)]),
    (26, .cells true 2 [.int .i64 (.ofNat 0)]),
    (27, .cells true 2 [.int .i64 (.ofNat 0)]),
    (28, .cells true 2 [.int .i64 (.ofNat 0)]),
    (29, .cells true 2 [.int .i64 (.ofNat 0)]),
    (30, .cells true 2 [.int .i64 (.ofNat 0)]),
    (31, .cells true 2 [.int .i64 (.ofNat 0)]),
    (32, .cells true 2 [.int .i64 (.ofNat 0)]),
    (33, .cells true 2 [.int .i64 (.ofNat 0)]),
    (34, .cells true 2 [.int .i64 (.ofNat 0)]),
    (35, .cells true 2 [.int .i64 (.ofNat 0)])],
   [],
   .slice none 0 0⟩
theorem vm1_ok : vm1.okS EE.G = true := by kernel_rfl
theorem vm1_run : evT EE [] 1000000000 (.call vm1.f vm1.args) vm1.heap (keptK vm1) = some (.bool true) := by kernel_rfl
theorem vm1_h : vm1.holds EE := ent_run envOk (fun _ h => by cases h) _ _ vm1_ok vm1_run
-- slices.MinFunc[[][]int,[]int], 808 steps
noncomputable def vm2 : Ent :=
  ⟨128, [.slice (some ⟨3, 0, none⟩) 4 18446744073709551616, .func (.func 129) ⟨[]⟩ ⟨[]⟩], 4,
   [(0, .dead),
    (1, .cells false 0 [.int .i64 (.negSucc 0), .int .i64 (.negSucc 0), .int .i64 (.negSucc 0), .int .i64 (.negSucc 0), .int .i64 (.negSucc 0)]),
    (2, .cells false 0 [.int .i64 (.ofNat 40), .int .i64 (.ofNat 2), .int .i64 (.ofNat 40), .int .i64 (.ofNat 2), .int .i64 (.ofNat 2), .int .i64 (.ofNat 1), .int .i64 (.ofNat 6), .int .i64 (.ofNat 2), .int .i64 (.ofNat 9), .int .i64 (.ofNat 3)]),
    (3, .cells true 2 [.slice none 0 0, .slice none 0 0, .slice none 0 0, .slice none 0 0])],
   [],
   .slice none 0 0⟩
theorem vm2_ok : vm2.okS EE.G = true := by kernel_rfl
theorem vm2_run : evT EE [] 1000000000 (.call vm2.f vm2.args) vm2.heap (keptK vm2) = some (.bool true) := by kernel_rfl
theorem vm2_h : vm2.holds EE := ent_run envOk (fun _ h => by cases h) _ _ vm2_ok vm2_run
end Go.Proofs.YtkkjbmecomoglaaDoor
