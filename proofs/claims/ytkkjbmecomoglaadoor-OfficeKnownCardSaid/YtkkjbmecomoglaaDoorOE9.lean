/- Known calls, part 9: what single calls hand back, at small heaps, by the kernel's own run of the evaluator. No conditions. -/
import Derived.Test.YtkkjbmecomoglaaDoorEnv
set_option linter.all false
namespace Go.Proofs.YtkkjbmecomoglaaDoor
open Go.Ai
set_option maxRecDepth 1000000
-- (decani/office.ask).all, 10321 steps
noncomputable def oe9 : Ent :=
  ⟨51, [.agg ⟨[.func (.func 50) ⟨[]⟩ ⟨[.pointer (some ⟨3, 0, none⟩), .pointer (some ⟨4, 0, none⟩)]⟩]⟩, .agg ⟨[.int .i64 (.ofNat 4), .int .i64 (.ofNat 28), .slice (some ⟨5, 0, none⟩) 3 3, .slice (some ⟨6, 0, none⟩) 2 2, .bool false, .slice (some ⟨7, 0, none⟩) 1 1, .bool true, .slice none 0 0]⟩], 8,
   [(0, .cells false 0 [.int .i64 (.negSucc 0), .int .i64 (.negSucc 0), .int .i64 (.negSucc 0), .int .i64 (.negSucc 0)]),
    (1, .dead),
    (2, .dead),
    (3, .cells true 0 [.int .i64 (.ofNat 0)]),
    (4, .cells true 0 [.int .i64 (.ofNat 0)]),
    (5, .cells true 0 [.int .i64 (.ofNat 1), .int .i64 (.ofNat 2), .int .i64 (.ofNat 2), .int .i64 (.ofNat 1), .int .i64 (.ofNat 1), .int .i64 (.ofNat 1), .int .i64 (.ofNat 2), .int .i64 (.ofNat 2), .int .i64 (.ofNat 1)]),
    (6, .cells true 0 [.int .i64 (.ofNat 1), .int .i64 (.ofNat 2), .int .i64 (.ofNat 1), .int .i64 (.ofNat 1), .int .i64 (.ofNat 1), .int .i64 (.ofNat 2)]),
    (7, .cells true 0 [.int .i64 (.ofNat 1), .int .i64 (.ofNat 2), .int .i64 (.ofNat 2)])],
   [(2, [.int .i64 (.negSucc 0), .int .i64 (.ofNat 0)])],
   .slice (some ⟨8, 0, none⟩) 1 18446744073709551616⟩
theorem oe9_ok : oe9.okS EE.G = true := by kernel_rfl
theorem oe9_run : evT EE [] 1000000000 (.call oe9.f oe9.args) oe9.heap (keptK oe9) = some (.bool true) := by kernel_rfl
theorem oe9_h : oe9.holds EE := ent_run envOk (fun _ h => by cases h) _ _ oe9_ok oe9_run
-- (decani/office.ask).all, 10321 steps
noncomputable def oe10 : Ent :=
  ⟨51, [.agg ⟨[.func (.func 50) ⟨[]⟩ ⟨[.pointer (some ⟨3, 0, none⟩), .pointer (some ⟨4, 0, none⟩)]⟩]⟩, .agg ⟨[.int .i64 (.ofNat 4), .int .i64 (.ofNat 28), .slice (some ⟨5, 0, none⟩) 3 3, .slice (some ⟨6, 0, none⟩) 2 2, .bool false, .slice (some ⟨7, 0, none⟩) 1 1, .bool true, .slice none 0 0]⟩], 8,
   [(0, .cells false 0 [.int .i64 (.negSucc 0), .int .i64 (.negSucc 0), .int .i64 (.negSucc 0), .int .i64 (.negSucc 0)]),
    (1, .dead),
    (2, .dead),
    (3, .cells true 0 [.int .i64 (.ofNat 1)]),
    (4, .cells true 0 [.int .i64 (.ofNat 0)]),
    (5, .cells true 0 [.int .i64 (.ofNat 1), .int .i64 (.ofNat 2), .int .i64 (.ofNat 2), .int .i64 (.ofNat 1), .int .i64 (.ofNat 1), .int .i64 (.ofNat 1), .int .i64 (.ofNat 2), .int .i64 (.ofNat 2), .int .i64 (.ofNat 1)]),
    (6, .cells true 0 [.int .i64 (.ofNat 1), .int .i64 (.ofNat 2), .int .i64 (.ofNat 1), .int .i64 (.ofNat 1), .int .i64 (.ofNat 1), .int .i64 (.ofNat 2)]),
    (7, .cells true 0 [.int .i64 (.ofNat 1), .int .i64 (.ofNat 2), .int .i64 (.ofNat 2)])],
   [(2, [.int .i64 (.negSucc 0), .int .i64 (.ofNat 0)])],
   .slice (some ⟨8, 0, none⟩) 1 18446744073709551616⟩
theorem oe10_ok : oe10.okS EE.G = true := by kernel_rfl
theorem oe10_run : evT EE [] 1000000000 (.call oe10.f oe10.args) oe10.heap (keptK oe10) = some (.bool true) := by kernel_rfl
theorem oe10_h : oe10.holds EE := ent_run envOk (fun _ h => by cases h) _ _ oe10_ok oe10_run
-- (decani/office.ask).often, 10075 steps
noncomputable def oe20 : Ent :=
  ⟨55, [.agg ⟨[.func (.func 57) ⟨[]⟩ ⟨[.pointer (some ⟨3, 0, none⟩)]⟩]⟩, .agg ⟨[.int .i64 (.ofNat 4), .int .i64 (.ofNat 28), .slice (some ⟨4, 0, none⟩) 3 3, .slice (some ⟨5, 0, none⟩) 2 2, .bool false, .slice (some ⟨6, 0, none⟩) 1 1, .bool true, .slice none 0 0]⟩], 7,
   [(0, .cells false 0 [.int .i64 (.negSucc 0), .int .i64 (.negSucc 0), .int .i64 (.negSucc 0), .int .i64 (.negSucc 0)]),
    (1, .dead),
    (2, .dead),
    (3, .cells true 0 [.int .i64 (.ofNat 1)]),
    (4, .cells true 0 [.int .i64 (.ofNat 1), .int .i64 (.ofNat 2), .int .i64 (.ofNat 2), .int .i64 (.ofNat 1), .int .i64 (.ofNat 1), .int .i64 (.ofNat 1), .int .i64 (.ofNat 2), .int .i64 (.ofNat 2), .int .i64 (.ofNat 1)]),
    (5, .cells true 0 [.int .i64 (.ofNat 1), .int .i64 (.ofNat 2), .int .i64 (.ofNat 1), .int .i64 (.ofNat 1), .int .i64 (.ofNat 1), .int .i64 (.ofNat 2)]),
    (6, .cells true 0 [.int .i64 (.ofNat 1), .int .i64 (.ofNat 2), .int .i64 (.ofNat 2)])],
   [],
   .int .i64 (.ofNat 1)⟩
theorem oe20_ok : oe20.okS EE.G = true := by kernel_rfl
theorem oe20_run : evT EE [] 1000000000 (.call oe20.f oe20.args) oe20.heap (keptK oe20) = some (.bool true) := by kernel_rfl
theorem oe20_h : oe20.holds EE := ent_run envOk (fun _ h => by cases h) _ _ oe20_ok oe20_run
-- (decani/office.ledger).canBeTrue, 5159 steps
noncomputable def oe36 : Ent :=
  ⟨43, [.agg ⟨[.int .i64 (.ofNat 4), .int .i64 (.ofNat 28), .slice (some ⟨3, 0, none⟩) 3 3, .slice (some ⟨4, 0, none⟩) 2 2, .bool false, .slice (some ⟨5, 0, none⟩) 1 1, .bool true, .slice none 0 0]⟩], 6,
   [(0, .cells false 0 [.int .i64 (.negSucc 0), .int .i64 (.negSucc 0), .int .i64 (.negSucc 0), .int .i64 (.negSucc 0)]),
    (1, .dead),
    (2, .dead),
    (3, .cells true 0 [.int .i64 (.ofNat 1), .int .i64 (.ofNat 2), .int .i64 (.ofNat 2), .int .i64 (.ofNat 1), .int .i64 (.ofNat 1), .int .i64 (.ofNat 1), .int .i64 (.ofNat 2), .int .i64 (.ofNat 2), .int .i64 (.ofNat 1)]),
    (4, .cells true 0 [.int .i64 (.ofNat 1), .int .i64 (.ofNat 2), .int .i64 (.ofNat 1), .int .i64 (.ofNat 1), .int .i64 (.ofNat 1), .int .i64 (.ofNat 2)]),
    (5, .cells true 0 [.int .i64 (.ofNat 1), .int .i64 (.ofNat 2), .int .i64 (.ofNat 2)])],
   [],
   .bool true⟩
theorem oe36_ok : oe36.okS EE.G = true := by kernel_rfl
theorem oe36_run : evT EE [] 1000000000 (.call oe36.f oe36.args) oe36.heap (keptK oe36) = some (.bool true) := by kernel_rfl
theorem oe36_h : oe36.holds EE := ent_run envOk (fun _ h => by cases h) _ _ oe36_ok oe36_run
-- decani/office.valid, 993 steps
noncomputable def oe44 : Ent :=
  ⟨62, [.agg ⟨[.int .i64 (.ofNat 4), .int .i64 (.ofNat 28), .slice (some ⟨3, 0, none⟩) 3 3, .slice (some ⟨4, 0, none⟩) 2 2, .bool false, .slice (some ⟨5, 0, none⟩) 6 6, .bool true, .slice none 0 0]⟩], 6,
   [(0, .cells false 0 [.int .i64 (.negSucc 0), .int .i64 (.negSucc 0), .int .i64 (.negSucc 0), .int .i64 (.negSucc 0)]),
    (1, .dead),
    (2, .dead),
    (3, .cells true 0 [.int .i64 (.ofNat 1), .int .i64 (.ofNat 2), .int .i64 (.ofNat 2), .int .i64 (.ofNat 1), .int .i64 (.ofNat 1), .int .i64 (.ofNat 1), .int .i64 (.ofNat 2), .int .i64 (.ofNat 2), .int .i64 (.ofNat 1)]),
    (4, .cells true 0 [.int .i64 (.ofNat 1), .int .i64 (.ofNat 2), .int .i64 (.ofNat 1), .int .i64 (.ofNat 1), .int .i64 (.ofNat 1), .int .i64 (.ofNat 2)]),
    (5, .cells true 0 [.int .i64 (.ofNat 0), .int .i64 (.ofNat 0), .int .i64 (.ofNat 0), .int .i64 (.ofNat 0), .int .i64 (.ofNat 0), .int .i64 (.ofNat 0), .int .i64 (.ofNat 0), .int .i64 (.ofNat 0), .int .i64 (.ofNat 0), .int .i64 (.ofNat 0), .int .i64 (.ofNat 0), .int .i64 (.ofNat 0), .int .i64 (.ofNat 0), .int .i64 (.ofNat 0), .int .i64 (.ofNat 0), .int .i64 (.ofNat 0), .int .i64 (.ofNat 0), .int .i64 (.ofNat 0)])],
   [],
   .bool false⟩
theorem oe44_ok : oe44.okS EE.G = true := by kernel_rfl
theorem oe44_run : evT EE [] 1000000000 (.call oe44.f oe44.args) oe44.heap (keptK oe44) = some (.bool true) := by kernel_rfl
theorem oe44_h : oe44.holds EE := ent_run envOk (fun _ h => by cases h) _ _ oe44_ok oe44_run
-- decani/office.valid, 273 steps
noncomputable def oe51 : Ent :=
  ⟨62, [.agg ⟨[.int .i64 (.ofNat 4), .int .i64 (.ofNat 28), .slice (some ⟨3, 0, none⟩) 3 3, .slice (some ⟨4, 0, none⟩) 2 2, .bool false, .slice (some ⟨5, 0, none⟩) 1 1, .bool true, .slice none 0 0]⟩], 6,
   [(0, .cells false 0 [.int .i64 (.negSucc 0), .int .i64 (.negSucc 0), .int .i64 (.negSucc 0), .int .i64 (.negSucc 0)]),
    (1, .dead),
    (2, .dead),
    (3, .cells true 0 [.int .i64 (.ofNat 1), .int .i64 (.ofNat 2), .int .i64 (.ofNat 4), .int .i64 (.ofNat 1), .int .i64 (.ofNat 1), .int .i64 (.ofNat 1), .int .i64 (.ofNat 2), .int .i64 (.ofNat 2), .int .i64 (.ofNat 1)]),
    (4, .cells true 0 [.int .i64 (.ofNat 1), .int .i64 (.ofNat 2), .int .i64 (.ofNat 1), .int .i64 (.ofNat 1), .int .i64 (.ofNat 1), .int .i64 (.ofNat 2)]),
    (5, .cells true 0 [.int .i64 (.ofNat 1), .int .i64 (.ofNat 2), .int .i64 (.ofNat 2)])],
   [],
   .bool false⟩
theorem oe51_ok : oe51.okS EE.G = true := by kernel_rfl
theorem oe51_run : evT EE [] 1000000000 (.call oe51.f oe51.args) oe51.heap (keptK oe51) = some (.bool true) := by kernel_rfl
theorem oe51_h : oe51.holds EE := ent_run envOk (fun _ h => by cases h) _ _ oe51_ok oe51_run
-- decani/office.valid, 61 steps
noncomputable def oe56 : Ent :=
  ⟨62, [.agg ⟨[.int .i64 (.ofNat 4), .int .i64 (.ofNat 30), .slice (some ⟨3, 0, none⟩) 3 3, .slice (some ⟨4, 0, none⟩) 2 2, .bool false, .slice (some ⟨5, 0, none⟩) 1 1, .bool true, .slice none 0 0]⟩], 6,
   [(0, .cells false 0 [.int .i64 (.negSucc 0), .int .i64 (.negSucc 0), .int .i64 (.negSucc 0), .int .i64 (.negSucc 0)]),
    (1, .dead),
    (2, .dead),
    (3, .cells true 0 [.int .i64 (.ofNat 1), .int .i64 (.ofNat 2), .int .i64 (.ofNat 2), .int .i64 (.ofNat 1), .int .i64 (.ofNat 1), .int .i64 (.ofNat 1), .int .i64 (.ofNat 2), .int .i64 (.ofNat 2), .int .i64 (.ofNat 1)]),
    (4, .cells true 0 [.int .i64 (.ofNat 1), .int .i64 (.ofNat 2), .int .i64 (.ofNat 1), .int .i64 (.ofNat 1), .int .i64 (.ofNat 1), .int .i64 (.ofNat 2)]),
    (5, .cells true 0 [.int .i64 (.ofNat 1), .int .i64 (.ofNat 2), .int .i64 (.ofNat 2)])],
   [],
   .bool false⟩
theorem oe56_ok : oe56.okS EE.G = true := by kernel_rfl
theorem oe56_run : evT EE [] 1000000000 (.call oe56.f oe56.args) oe56.heap (keptK oe56) = some (.bool true) := by kernel_rfl
theorem oe56_h : oe56.holds EE := ent_run envOk (fun _ h => by cases h) _ _ oe56_ok oe56_run
end Go.Proofs.YtkkjbmecomoglaaDoor
