/- Known calls, part 6: what single calls hand back, at small heaps, by the kernel's own run of the evaluator. No conditions. -/
import Derived.Test.YtkkjbmecomoglaaDoorEnv
set_option linter.all false
namespace Go.Proofs.YtkkjbmecomoglaaDoor
open Go.Ai
set_option maxRecDepth 1000000
-- (decani/office.ask).all, 10354 steps
noncomputable def oe6 : Ent :=
  ⟨51, [.agg ⟨[.func (.func 50) ⟨[]⟩ ⟨[.pointer (some ⟨3, 0, none⟩), .pointer (some ⟨4, 0, none⟩)]⟩]⟩, .agg ⟨[.int .i64 (.ofNat 4), .int .i64 (.ofNat 28), .slice (some ⟨5, 0, none⟩) 3 3, .slice (some ⟨6, 0, none⟩) 2 2, .bool false, .slice (some ⟨7, 0, none⟩) 1 1, .bool true, .slice none 0 0]⟩], 8,
   [(0, .cells false 0 [.int .i64 (.negSucc 0), .int .i64 (.negSucc 0), .int .i64 (.negSucc 0), .int .i64 (.negSucc 0)]),
    (1, .dead),
    (2, .dead),
    (3, .cells true 0 [.int .i64 (.ofNat 1)]),
    (4, .cells true 0 [.int .i64 (.ofNat 2)]),
    (5, .cells true 0 [.int .i64 (.ofNat 1), .int .i64 (.ofNat 2), .int .i64 (.ofNat 2), .int .i64 (.ofNat 1), .int .i64 (.ofNat 1), .int .i64 (.ofNat 1), .int .i64 (.ofNat 2), .int .i64 (.ofNat 2), .int .i64 (.ofNat 1)]),
    (6, .cells true 0 [.int .i64 (.ofNat 1), .int .i64 (.ofNat 2), .int .i64 (.ofNat 1), .int .i64 (.ofNat 1), .int .i64 (.ofNat 1), .int .i64 (.ofNat 2)]),
    (7, .cells true 0 [.int .i64 (.ofNat 1), .int .i64 (.ofNat 2), .int .i64 (.ofNat 2)])],
   [(2, [.int .i64 (.ofNat 0), .int .i64 (.ofNat 2)])],
   .slice (some ⟨8, 0, none⟩) 2 18446744073709551616⟩
theorem oe6_ok : oe6.okS EE.G = true := by kernel_rfl
theorem oe6_run : evT EE [] 1000000000 (.call oe6.f oe6.args) oe6.heap (keptK oe6) = some (.bool true) := by kernel_rfl
theorem oe6_h : oe6.holds EE := ent_run envOk (fun _ h => by cases h) _ _ oe6_ok oe6_run
-- (decani/office.ask).all, 10319 steps
noncomputable def oe14 : Ent :=
  ⟨51, [.agg ⟨[.func (.func 56) ⟨[]⟩ ⟨[.pointer (some ⟨3, 0, none⟩), .pointer (some ⟨4, 0, none⟩)]⟩]⟩, .agg ⟨[.int .i64 (.ofNat 4), .int .i64 (.ofNat 28), .slice (some ⟨5, 0, none⟩) 3 3, .slice (some ⟨6, 0, none⟩) 2 2, .bool false, .slice (some ⟨7, 0, none⟩) 1 1, .bool true, .slice none 0 0]⟩], 8,
   [(0, .cells false 0 [.int .i64 (.negSucc 0), .int .i64 (.negSucc 0), .int .i64 (.negSucc 0), .int .i64 (.negSucc 0)]),
    (1, .dead),
    (2, .dead),
    (3, .cells true 0 [.int .i64 (.ofNat 0)]),
    (4, .cells true 0 [.int .i64 (.ofNat 2)]),
    (5, .cells true 0 [.int .i64 (.ofNat 1), .int .i64 (.ofNat 2), .int .i64 (.ofNat 2), .int .i64 (.ofNat 1), .int .i64 (.ofNat 1), .int .i64 (.ofNat 1), .int .i64 (.ofNat 2), .int .i64 (.ofNat 2), .int .i64 (.ofNat 1)]),
    (6, .cells true 0 [.int .i64 (.ofNat 1), .int .i64 (.ofNat 2), .int .i64 (.ofNat 1), .int .i64 (.ofNat 1), .int .i64 (.ofNat 1), .int .i64 (.ofNat 2)]),
    (7, .cells true 0 [.int .i64 (.ofNat 1), .int .i64 (.ofNat 2), .int .i64 (.ofNat 2)])],
   [(2, [.int .i64 (.negSucc 0), .int .i64 (.ofNat 0)])],
   .slice (some ⟨8, 0, none⟩) 1 18446744073709551616⟩
theorem oe14_ok : oe14.okS EE.G = true := by kernel_rfl
theorem oe14_run : evT EE [] 1000000000 (.call oe14.f oe14.args) oe14.heap (keptK oe14) = some (.bool true) := by kernel_rfl
theorem oe14_h : oe14.holds EE := ent_run envOk (fun _ h => by cases h) _ _ oe14_ok oe14_run
-- (decani/office.ask).span, 10033 steps
noncomputable def oe24 : Ent :=
  ⟨47, [.agg ⟨[.func (.func 52) ⟨[]⟩ ⟨[.pointer (some ⟨3, 0, none⟩), .pointer (some ⟨4, 0, none⟩)]⟩]⟩, .agg ⟨[.int .i64 (.ofNat 4), .int .i64 (.ofNat 28), .slice (some ⟨5, 0, none⟩) 3 3, .slice none 0 0, .bool false, .slice (some ⟨6, 0, none⟩) 1 1, .bool true, .slice none 0 0]⟩], 7,
   [(0, .cells false 0 [.int .i64 (.negSucc 0), .int .i64 (.negSucc 0), .int .i64 (.negSucc 0), .int .i64 (.negSucc 0)]),
    (1, .dead),
    (2, .dead),
    (3, .cells true 0 [.int .i64 (.ofNat 0)]),
    (4, .cells true 0 [.int .i64 (.ofNat 2)]),
    (5, .cells true 0 [.int .i64 (.ofNat 1), .int .i64 (.ofNat 2), .int .i64 (.ofNat 2), .int .i64 (.ofNat 1), .int .i64 (.ofNat 1), .int .i64 (.ofNat 1), .int .i64 (.ofNat 2), .int .i64 (.ofNat 2), .int .i64 (.ofNat 1)]),
    (6, .cells true 0 [.int .i64 (.ofNat 1), .int .i64 (.ofNat 2), .int .i64 (.ofNat 2)])],
   [],
   .tuple ⟨[.agg ⟨[.int .i64 (.ofNat 2), .int .i64 (.ofNat 2)]⟩, .bool true]⟩⟩
theorem oe24_ok : oe24.okS EE.G = true := by kernel_rfl
theorem oe24_run : evT EE [] 1000000000 (.call oe24.f oe24.args) oe24.heap (keptK oe24) = some (.bool true) := by kernel_rfl
theorem oe24_h : oe24.holds EE := ent_run envOk (fun _ h => by cases h) _ _ oe24_ok oe24_run
-- (decani/office.ledger).canBeTrue, 5390 steps
noncomputable def oe35 : Ent :=
  ⟨43, [.agg ⟨[.int .i64 (.ofNat 4), .int .i64 (.ofNat 28), .slice (some ⟨3, 0, none⟩) 3 3, .slice (some ⟨4, 0, none⟩) 2 2, .bool false, .slice (some ⟨5, 0, none⟩) 1 1, .bool true, .slice (some ⟨6, 0, none⟩) 1 18446744073709551616]⟩], 7,
   [(0, .cells false 0 [.int .i64 (.negSucc 0), .int .i64 (.negSucc 0), .int .i64 (.negSucc 0), .int .i64 (.negSucc 0)]),
    (1, .dead),
    (2, .dead),
    (3, .cells true 0 [.int .i64 (.ofNat 1), .int .i64 (.ofNat 2), .int .i64 (.ofNat 2), .int .i64 (.ofNat 1), .int .i64 (.ofNat 1), .int .i64 (.ofNat 1), .int .i64 (.ofNat 2), .int .i64 (.ofNat 2), .int .i64 (.ofNat 1)]),
    (4, .cells true 0 [.int .i64 (.ofNat 1), .int .i64 (.ofNat 2), .int .i64 (.ofNat 1), .int .i64 (.ofNat 1), .int .i64 (.ofNat 1), .int .i64 (.ofNat 2)]),
    (5, .cells true 0 [.int .i64 (.ofNat 1), .int .i64 (.ofNat 2), .int .i64 (.ofNat 2)]),
    (6, .cells true 4 [.int .i64 (.ofNat 0), .int .i64 (.ofNat 2), .int .i64 (.ofNat 2)])],
   [],
   .bool false⟩
theorem oe35_ok : oe35.okS EE.G = true := by kernel_rfl
theorem oe35_run : evT EE [] 1000000000 (.call oe35.f oe35.args) oe35.heap (keptK oe35) = some (.bool true) := by kernel_rfl
theorem oe35_h : oe35.holds EE := ent_run envOk (fun _ h => by cases h) _ _ oe35_ok oe35_run
-- decani/office.valid, 891 steps
noncomputable def oe45 : Ent :=
  ⟨62, [.agg ⟨[.int .i64 (.ofNat 4), .int .i64 (.ofNat 28), .slice (some ⟨3, 0, none⟩) 3 3, .slice none 0 0, .bool false, .slice (some ⟨4, 0, none⟩) 1 1, .bool true, .slice none 0 0]⟩], 5,
   [(0, .cells false 0 [.int .i64 (.negSucc 0), .int .i64 (.negSucc 0), .int .i64 (.negSucc 0), .int .i64 (.negSucc 0)]),
    (1, .dead),
    (2, .dead),
    (3, .cells true 0 [.int .i64 (.ofNat 1), .int .i64 (.ofNat 2), .int .i64 (.ofNat 2), .int .i64 (.ofNat 1), .int .i64 (.ofNat 1), .int .i64 (.ofNat 1), .int .i64 (.ofNat 2), .int .i64 (.ofNat 2), .int .i64 (.ofNat 1)]),
    (4, .cells true 0 [.int .i64 (.ofNat 1), .int .i64 (.ofNat 2), .int .i64 (.ofNat 2)])],
   [],
   .bool true⟩
theorem oe45_ok : oe45.okS EE.G = true := by kernel_rfl
theorem oe45_run : evT EE [] 1000000000 (.call oe45.f oe45.args) oe45.heap (keptK oe45) = some (.bool true) := by kernel_rfl
theorem oe45_h : oe45.holds EE := ent_run envOk (fun _ h => by cases h) _ _ oe45_ok oe45_run
-- decani/office.valid, 243 steps
noncomputable def oe52 : Ent :=
  ⟨62, [.agg ⟨[.int .i64 (.ofNat 4), .int .i64 (.ofNat 28), .slice (some ⟨3, 0, none⟩) 3 3, .slice (some ⟨4, 0, none⟩) 2 2, .bool false, .slice (some ⟨5, 0, none⟩) 1 1, .bool true, .slice none 0 0]⟩], 6,
   [(0, .cells false 0 [.int .i64 (.negSucc 0), .int .i64 (.negSucc 0), .int .i64 (.negSucc 0), .int .i64 (.negSucc 0)]),
    (1, .dead),
    (2, .dead),
    (3, .cells true 0 [.int .i64 (.ofNat 2), .int .i64 (.ofNat 1), .int .i64 (.ofNat 2), .int .i64 (.ofNat 1), .int .i64 (.ofNat 1), .int .i64 (.ofNat 1), .int .i64 (.ofNat 2), .int .i64 (.ofNat 2), .int .i64 (.ofNat 1)]),
    (4, .cells true 0 [.int .i64 (.ofNat 1), .int .i64 (.ofNat 2), .int .i64 (.ofNat 1), .int .i64 (.ofNat 1), .int .i64 (.ofNat 1), .int .i64 (.ofNat 2)]),
    (5, .cells true 0 [.int .i64 (.ofNat 1), .int .i64 (.ofNat 2), .int .i64 (.ofNat 2)])],
   [],
   .bool false⟩
theorem oe52_ok : oe52.okS EE.G = true := by kernel_rfl
theorem oe52_run : evT EE [] 1000000000 (.call oe52.f oe52.args) oe52.heap (keptK oe52) = some (.bool true) := by kernel_rfl
theorem oe52_h : oe52.holds EE := ent_run envOk (fun _ h => by cases h) _ _ oe52_ok oe52_run
-- decani/office.valid, 61 steps
noncomputable def oe57 : Ent :=
  ⟨62, [.agg ⟨[.int .i64 (.ofNat 4), .int .i64 (.negSucc 0), .slice (some ⟨3, 0, none⟩) 3 3, .slice (some ⟨4, 0, none⟩) 2 2, .bool false, .slice (some ⟨5, 0, none⟩) 1 1, .bool true, .slice none 0 0]⟩], 6,
   [(0, .cells false 0 [.int .i64 (.negSucc 0), .int .i64 (.negSucc 0), .int .i64 (.negSucc 0), .int .i64 (.negSucc 0)]),
    (1, .dead),
    (2, .dead),
    (3, .cells true 0 [.int .i64 (.ofNat 1), .int .i64 (.ofNat 2), .int .i64 (.ofNat 2), .int .i64 (.ofNat 1), .int .i64 (.ofNat 1), .int .i64 (.ofNat 1), .int .i64 (.ofNat 2), .int .i64 (.ofNat 2), .int .i64 (.ofNat 1)]),
    (4, .cells true 0 [.int .i64 (.ofNat 1), .int .i64 (.ofNat 2), .int .i64 (.ofNat 1), .int .i64 (.ofNat 1), .int .i64 (.ofNat 1), .int .i64 (.ofNat 2)]),
    (5, .cells true 0 [.int .i64 (.ofNat 1), .int .i64 (.ofNat 2), .int .i64 (.ofNat 2)])],
   [],
   .bool false⟩
theorem oe57_ok : oe57.okS EE.G = true := by kernel_rfl
theorem oe57_run : evT EE [] 1000000000 (.call oe57.f oe57.args) oe57.heap (keptK oe57) = some (.bool true) := by kernel_rfl
theorem oe57_h : oe57.holds EE := ent_run envOk (fun _ h => by cases h) _ _ oe57_ok oe57_run
end Go.Proofs.YtkkjbmecomoglaaDoor
