/- Known calls, part 0: what single calls hand back, at small heaps, by the kernel's own run of the evaluator. No conditions. -/
import Derived.Test.YtkkjbmecomoglaaDoorEnv
set_option linter.all false
namespace Go.Proofs.YtkkjbmecomoglaaDoor
open Go.Ai
set_option maxRecDepth 1000000
-- (decani/office.ask).span, 10577 steps
noncomputable def oe0 : Ent :=
  ⟨47, [.agg ⟨[.func (.func 52) ⟨[]⟩ ⟨[.pointer (some ⟨3, 0, none⟩), .pointer (some ⟨4, 0, none⟩)]⟩]⟩, .agg ⟨[.int .i64 (.ofNat 4), .int .i64 (.ofNat 28), .slice (some ⟨5, 0, none⟩) 3 3, .slice (some ⟨6, 0, none⟩) 2 2, .bool false, .slice (some ⟨7, 0, none⟩) 1 1, .bool true, .slice none 0 0]⟩], 8,
   [(0, .cells false 0 [.int .i64 (.negSucc 0), .int .i64 (.negSucc 0), .int .i64 (.negSucc 0), .int .i64 (.negSucc 0)]),
    (1, .dead),
    (2, .dead),
    (3, .cells true 0 [.int .i64 (.ofNat 0)]),
    (4, .cells true 0 [.int .i64 (.ofNat 2)]),
    (5, .cells true 0 [.int .i64 (.ofNat 1), .int .i64 (.ofNat 2), .int .i64 (.ofNat 2), .int .i64 (.ofNat 1), .int .i64 (.ofNat 1), .int .i64 (.ofNat 1), .int .i64 (.ofNat 2), .int .i64 (.ofNat 2), .int .i64 (.ofNat 1)]),
    (6, .cells true 0 [.int .i64 (.ofNat 1), .int .i64 (.ofNat 2), .int .i64 (.ofNat 1), .int .i64 (.ofNat 1), .int .i64 (.ofNat 1), .int .i64 (.ofNat 2)]),
    (7, .cells true 0 [.int .i64 (.ofNat 1), .int .i64 (.ofNat 2), .int .i64 (.ofNat 2)])],
   [],
   .tuple ⟨[.agg ⟨[.int .i64 (.ofNat 2), .int .i64 (.ofNat 3)]⟩, .bool true]⟩⟩
theorem oe0_ok : oe0.okS EE.G = true := by kernel_rfl
theorem oe0_run : evT EE [] 1000000000 (.call oe0.f oe0.args) oe0.heap (keptK oe0) = some (.bool true) := by kernel_rfl
theorem oe0_h : oe0.holds EE := ent_run envOk (fun _ h => by cases h) _ _ oe0_ok oe0_run
-- (decani/office.ask).span, 10188 steps
noncomputable def oe19 : Ent :=
  ⟨47, [.agg ⟨[.func (.func 46) ⟨[]⟩ ⟨[.pointer (some ⟨3, 0, none⟩)]⟩]⟩, .agg ⟨[.int .i64 (.ofNat 4), .int .i64 (.ofNat 28), .slice (some ⟨4, 0, none⟩) 3 3, .slice (some ⟨5, 0, none⟩) 2 2, .bool false, .slice (some ⟨6, 0, none⟩) 1 1, .bool true, .slice none 0 0]⟩], 7,
   [(0, .cells false 0 [.int .i64 (.negSucc 0), .int .i64 (.negSucc 0), .int .i64 (.negSucc 0), .int .i64 (.negSucc 0)]),
    (1, .dead),
    (2, .dead),
    (3, .cells true 0 [.int .i64 (.ofNat 0)]),
    (4, .cells true 0 [.int .i64 (.ofNat 1), .int .i64 (.ofNat 2), .int .i64 (.ofNat 2), .int .i64 (.ofNat 1), .int .i64 (.ofNat 1), .int .i64 (.ofNat 1), .int .i64 (.ofNat 2), .int .i64 (.ofNat 2), .int .i64 (.ofNat 1)]),
    (5, .cells true 0 [.int .i64 (.ofNat 1), .int .i64 (.ofNat 2), .int .i64 (.ofNat 1), .int .i64 (.ofNat 1), .int .i64 (.ofNat 1), .int .i64 (.ofNat 2)]),
    (6, .cells true 0 [.int .i64 (.ofNat 1), .int .i64 (.ofNat 2), .int .i64 (.ofNat 2)])],
   [],
   .tuple ⟨[.agg ⟨[.int .i64 (.ofNat 1), .int .i64 (.ofNat 2)]⟩, .bool true]⟩⟩
theorem oe19_ok : oe19.okS EE.G = true := by kernel_rfl
theorem oe19_run : evT EE [] 1000000000 (.call oe19.f oe19.args) oe19.heap (keptK oe19) = some (.bool true) := by kernel_rfl
theorem oe19_h : oe19.holds EE := ent_run envOk (fun _ h => by cases h) _ _ oe19_ok oe19_run
-- (decani/office.ask).all, 8971 steps
noncomputable def oe27 : Ent :=
  ⟨51, [.agg ⟨[.func (.func 50) ⟨[]⟩ ⟨[.pointer (some ⟨3, 0, none⟩), .pointer (some ⟨4, 0, none⟩)]⟩]⟩, .agg ⟨[.int .i64 (.ofNat 4), .int .i64 (.ofNat 28), .slice (some ⟨5, 0, none⟩) 3 3, .slice (some ⟨6, 0, none⟩) 2 2, .bool false, .slice (some ⟨7, 0, none⟩) 1 1, .bool true, .slice (some ⟨8, 0, none⟩) 1 1]⟩], 9,
   [(0, .cells false 0 [.int .i64 (.negSucc 0), .int .i64 (.negSucc 0), .int .i64 (.negSucc 0), .int .i64 (.negSucc 0)]),
    (1, .dead),
    (2, .dead),
    (3, .cells true 0 [.int .i64 (.ofNat 0)]),
    (4, .cells true 0 [.int .i64 (.ofNat 1)]),
    (5, .cells true 0 [.int .i64 (.ofNat 1), .int .i64 (.ofNat 2), .int .i64 (.ofNat 2), .int .i64 (.ofNat 1), .int .i64 (.ofNat 1), .int .i64 (.ofNat 1), .int .i64 (.ofNat 2), .int .i64 (.ofNat 2), .int .i64 (.ofNat 1)]),
    (6, .cells true 0 [.int .i64 (.ofNat 1), .int .i64 (.ofNat 2), .int .i64 (.ofNat 1), .int .i64 (.ofNat 1), .int .i64 (.ofNat 1), .int .i64 (.ofNat 2)]),
    (7, .cells true 0 [.int .i64 (.ofNat 1), .int .i64 (.ofNat 2), .int .i64 (.ofNat 2)]),
    (8, .cells true 0 [.int .i64 (.ofNat 0), .int .i64 (.ofNat 3), .int .i64 (.ofNat 2)])],
   [(2, [.int .i64 (.ofNat 1)])],
   .slice (some ⟨9, 0, none⟩) 1 18446744073709551616⟩
theorem oe27_ok : oe27.okS EE.G = true := by kernel_rfl
theorem oe27_run : evT EE [] 1000000000 (.call oe27.f oe27.args) oe27.heap (keptK oe27) = some (.bool true) := by kernel_rfl
theorem oe27_h : oe27.holds EE := ent_run envOk (fun _ h => by cases h) _ _ oe27_ok oe27_run
-- (decani/office.ask).often, 8856 steps
noncomputable def oe30 : Ent :=
  ⟨55, [.agg ⟨[.func (.func 57) ⟨[]⟩ ⟨[.pointer (some ⟨3, 0, none⟩)]⟩]⟩, .agg ⟨[.int .i64 (.ofNat 4), .int .i64 (.ofNat 28), .slice (some ⟨4, 0, none⟩) 3 3, .slice (some ⟨5, 0, none⟩) 2 2, .bool false, .slice (some ⟨6, 0, none⟩) 1 1, .bool true, .slice (some ⟨7, 0, none⟩) 1 1]⟩], 8,
   [(0, .cells false 0 [.int .i64 (.negSucc 0), .int .i64 (.negSucc 0), .int .i64 (.negSucc 0), .int .i64 (.negSucc 0)]),
    (1, .dead),
    (2, .dead),
    (3, .cells true 0 [.int .i64 (.ofNat 1)]),
    (4, .cells true 0 [.int .i64 (.ofNat 1), .int .i64 (.ofNat 2), .int .i64 (.ofNat 2), .int .i64 (.ofNat 1), .int .i64 (.ofNat 1), .int .i64 (.ofNat 1), .int .i64 (.ofNat 2), .int .i64 (.ofNat 2), .int .i64 (.ofNat 1)]),
    (5, .cells true 0 [.int .i64 (.ofNat 1), .int .i64 (.ofNat 2), .int .i64 (.ofNat 1), .int .i64 (.ofNat 1), .int .i64 (.ofNat 1), .int .i64 (.ofNat 2)]),
    (6, .cells true 0 [.int .i64 (.ofNat 1), .int .i64 (.ofNat 2), .int .i64 (.ofNat 2)]),
    (7, .cells true 0 [.int .i64 (.ofNat 0), .int .i64 (.ofNat 3), .int .i64 (.ofNat 2)])],
   [],
   .int .i64 (.ofNat 2)⟩
theorem oe30_ok : oe30.okS EE.G = true := by kernel_rfl
theorem oe30_run : evT EE [] 1000000000 (.call oe30.f oe30.args) oe30.heap (keptK oe30) = some (.bool true) := by kernel_rfl
theorem oe30_h : oe30.holds EE := ent_run envOk (fun _ h => by cases h) _ _ oe30_ok oe30_run
end Go.Proofs.YtkkjbmecomoglaaDoor
