/- Known calls, part 5: what single calls hand back, at small heaps, by the kernel's own run of the evaluator. No conditions. -/
import Derived.Test.YtkkjbmecomoglaaDoorEnv
set_option linter.all false
namespace Go.Proofs.YtkkjbmecomoglaaDoor
open Go.Ai
set_option maxRecDepth 1000000
-- (decani/office.ask).all, 10354 steps
noncomputable def oe5 : Ent :=
  ⟨51, [.agg ⟨[.func (.func 50) ⟨[]⟩ ⟨[.pointer (some ⟨3, 0, none⟩), .pointer (some ⟨4, 0, none⟩)]⟩]⟩, .agg ⟨[.int .i64 (.ofNat 4), .int .i64 (.ofNat 28), .slice (some ⟨5, 0, none⟩) 3 3, .slice (some ⟨6, 0, none⟩) 2 2, .bool false, .slice (some ⟨7, 0, none⟩) 1 1, .bool true, .slice none 0 0]⟩], 8,
   [(0, .cells false 0 [.int .i64 (.negSucc 0), .int .i64 (.negSucc 0), .int .i64 (.negSucc 0), .int .i64 (.negSucc 0)]),
    (1, .dead),
    (2, .dead),
    (3, .cells true 0 [.int .i64 (.ofNat 0)]),
    (4, .cells true 0 [.int .i64 (.ofNat 2)]),
    (5, .cells true 0 [.int .i64 (.ofNat 1), .int .i64 (.ofNat 2), .int .i64 (.ofNat 2), .int .i64 (.ofNat 1), .int .i64 (.ofNat 1), .int .i64 (.ofNat 1), .int .i64 (.ofNat 2), .int .i64 (.ofNat 2), .int .i64 (.ofNat 1)]),
    (6, .cells true 0 [.int .i64 (.ofNat 1), .int .i64 (.ofNat 2), .int .i64 (.ofNat 1), .int .i64 (.ofNat 1), .int .i64 (.ofNat 1), .int .i64 (.ofNat 2)]),
    (7, .cells true 0 [.int .i64 (.ofNat 1), .int .i64 (.ofNat 2), .int .i64 (.ofNat 2)])],
   [(2, [.int .i64 (.ofNat 0), .int .i64 (.ofNat 1)])],
   .slice (some ⟨8, 0, none⟩) 2 18446744073709551616⟩
theorem oe5_ok : oe5.okS EE.G = true := by kernel_rfl
theorem oe5_run : evT EE [] 1000000000 (.call oe5.f oe5.args) oe5.heap (keptK oe5) = some (.bool true) := by kernel_rfl
theorem oe5_h : oe5.holds EE := ent_run envOk (fun _ h => by cases h) _ _ oe5_ok oe5_run
-- (decani/office.ask).all, 10319 steps
noncomputable def oe13 : Ent :=
  ⟨51, [.agg ⟨[.func (.func 56) ⟨[]⟩ ⟨[.pointer (some ⟨3, 0, none⟩), .pointer (some ⟨4, 0, none⟩)]⟩]⟩, .agg ⟨[.int .i64 (.ofNat 4), .int .i64 (.ofNat 28), .slice (some ⟨5, 0, none⟩) 3 3, .slice (some ⟨6, 0, none⟩) 2 2, .bool false, .slice (some ⟨7, 0, none⟩) 1 1, .bool true, .slice none 0 0]⟩], 8,
   [(0, .cells false 0 [.int .i64 (.negSucc 0), .int .i64 (.negSucc 0), .int .i64 (.negSucc 0), .int .i64 (.negSucc 0)]),
    (1, .dead),
    (2, .dead),
    (3, .cells true 0 [.int .i64 (.ofNat 0)]),
    (4, .cells true 0 [.int .i64 (.ofNat 1)]),
    (5, .cells true 0 [.int .i64 (.ofNat 1), .int .i64 (.ofNat 2), .int .i64 (.ofNat 2), .int .i64 (.ofNat 1), .int .i64 (.ofNat 1), .int .i64 (.ofNat 1), .int .i64 (.ofNat 2), .int .i64 (.ofNat 2), .int .i64 (.ofNat 1)]),
    (6, .cells true 0 [.int .i64 (.ofNat 1), .int .i64 (.ofNat 2), .int .i64 (.ofNat 1), .int .i64 (.ofNat 1), .int .i64 (.ofNat 1), .int .i64 (.ofNat 2)]),
    (7, .cells true 0 [.int .i64 (.ofNat 1), .int .i64 (.ofNat 2), .int .i64 (.ofNat 2)])],
   [(2, [.int .i64 (.negSucc 0), .int .i64 (.ofNat 0)])],
   .slice (some ⟨8, 0, none⟩) 1 18446744073709551616⟩
theorem oe13_ok : oe13.okS EE.G = true := by kernel_rfl
theorem oe13_run : evT EE [] 1000000000 (.call oe13.f oe13.args) oe13.heap (keptK oe13) = some (.bool true) := by kernel_rfl
theorem oe13_h : oe13.holds EE := ent_run envOk (fun _ h => by cases h) _ _ oe13_ok oe13_run
-- (decani/office.ask).often, 10068 steps
noncomputable def oe23 : Ent :=
  ⟨55, [.agg ⟨[.func (.func 57) ⟨[]⟩ ⟨[.pointer (some ⟨3, 0, none⟩)]⟩]⟩, .agg ⟨[.int .i64 (.ofNat 4), .int .i64 (.ofNat 28), .slice (some ⟨4, 0, none⟩) 3 3, .slice (some ⟨5, 0, none⟩) 2 2, .bool false, .slice (some ⟨6, 0, none⟩) 1 1, .bool true, .slice none 0 0]⟩], 7,
   [(0, .cells false 0 [.int .i64 (.negSucc 0), .int .i64 (.negSucc 0), .int .i64 (.negSucc 0), .int .i64 (.negSucc 0)]),
    (1, .dead),
    (2, .dead),
    (3, .cells true 0 [.int .i64 (.ofNat 2)]),
    (4, .cells true 0 [.int .i64 (.ofNat 1), .int .i64 (.ofNat 2), .int .i64 (.ofNat 2), .int .i64 (.ofNat 1), .int .i64 (.ofNat 1), .int .i64 (.ofNat 1), .int .i64 (.ofNat 2), .int .i64 (.ofNat 2), .int .i64 (.ofNat 1)]),
    (5, .cells true 0 [.int .i64 (.ofNat 1), .int .i64 (.ofNat 2), .int .i64 (.ofNat 1), .int .i64 (.ofNat 1), .int .i64 (.ofNat 1), .int .i64 (.ofNat 2)]),
    (6, .cells true 0 [.int .i64 (.ofNat 1), .int .i64 (.ofNat 2), .int .i64 (.ofNat 2)])],
   [],
   .int .i64 (.ofNat 0)⟩
theorem oe23_ok : oe23.okS EE.G = true := by kernel_rfl
theorem oe23_run : evT EE [] 1000000000 (.call oe23.f oe23.args) oe23.heap (keptK oe23) = some (.bool true) := by kernel_rfl
theorem oe23_h : oe23.holds EE := ent_run envOk (fun _ h => by cases h) _ _ oe23_ok oe23_run
-- (decani/office.ledger).canBeTrue, 3889 steps
noncomputable def oe38 : Ent :=
  ⟨43, [.agg ⟨[.int .i64 (.ofNat 4), .int .i64 (.ofNat 28), .slice (some ⟨3, 0, none⟩) 3 3, .slice (some ⟨4, 0, none⟩) 2 2, .bool false, .slice (some ⟨5, 0, none⟩) 1 1, .bool true, .slice (some ⟨6, 0, none⟩) 2 2]⟩], 7,
   [(0, .cells false 0 [.int .i64 (.negSucc 0), .int .i64 (.negSucc 0), .int .i64 (.negSucc 0), .int .i64 (.negSucc 0)]),
    (1, .dead),
    (2, .dead),
    (3, .cells true 0 [.int .i64 (.ofNat 1), .int .i64 (.ofNat 2), .int .i64 (.ofNat 2), .int .i64 (.ofNat 1), .int .i64 (.ofNat 1), .int .i64 (.ofNat 1), .int .i64 (.ofNat 2), .int .i64 (.ofNat 2), .int .i64 (.ofNat 1)]),
    (4, .cells true 0 [.int .i64 (.ofNat 1), .int .i64 (.ofNat 2), .int .i64 (.ofNat 1), .int .i64 (.ofNat 1), .int .i64 (.ofNat 1), .int .i64 (.ofNat 2)]),
    (5, .cells true 0 [.int .i64 (.ofNat 1), .int .i64 (.ofNat 2), .int .i64 (.ofNat 2)]),
    (6, .cells true 0 [.int .i64 (.ofNat 0), .int .i64 (.ofNat 3), .int .i64 (.ofNat 2), .int .i64 (.ofNat 1), .int .i64 (.ofNat 1), .int .i64 (.ofNat 0)])],
   [],
   .bool false⟩
theorem oe38_ok : oe38.okS EE.G = true := by kernel_rfl
theorem oe38_run : evT EE [] 1000000000 (.call oe38.f oe38.args) oe38.heap (keptK oe38) = some (.bool true) := by kernel_rfl
theorem oe38_h : oe38.holds EE := ent_run envOk (fun _ h => by cases h) _ _ oe38_ok oe38_run
-- decani/office.valid, 1453 steps
noncomputable def oe40 : Ent :=
  ⟨62, [.agg ⟨[.int .i64 (.ofNat 4), .int .i64 (.ofNat 28), .slice (some ⟨3, 0, none⟩) 3 3, .slice (some ⟨4, 0, none⟩) 2 2, .bool false, .slice (some ⟨5, 0, none⟩) 1 1, .bool true, .slice (some ⟨6, 0, none⟩) 2 2]⟩], 7,
   [(0, .cells false 0 [.int .i64 (.negSucc 0), .int .i64 (.negSucc 0), .int .i64 (.negSucc 0), .int .i64 (.negSucc 0)]),
    (1, .dead),
    (2, .dead),
    (3, .cells true 0 [.int .i64 (.ofNat 1), .int .i64 (.ofNat 2), .int .i64 (.ofNat 2), .int .i64 (.ofNat 1), .int .i64 (.ofNat 1), .int .i64 (.ofNat 1), .int .i64 (.ofNat 2), .int .i64 (.ofNat 2), .int .i64 (.ofNat 1)]),
    (4, .cells true 0 [.int .i64 (.ofNat 1), .int .i64 (.ofNat 2), .int .i64 (.ofNat 1), .int .i64 (.ofNat 1), .int .i64 (.ofNat 1), .int .i64 (.ofNat 2)]),
    (5, .cells true 0 [.int .i64 (.ofNat 1), .int .i64 (.ofNat 2), .int .i64 (.ofNat 2)]),
    (6, .cells true 0 [.int .i64 (.ofNat 0), .int .i64 (.ofNat 3), .int .i64 (.ofNat 2), .int .i64 (.ofNat 1), .int .i64 (.ofNat 1), .int .i64 (.ofNat 0)])],
   [],
   .bool true⟩
theorem oe40_ok : oe40.okS EE.G = true := by kernel_rfl
theorem oe40_run : evT EE [] 1000000000 (.call oe40.f oe40.args) oe40.heap (keptK oe40) = some (.bool true) := by kernel_rfl
theorem oe40_h : oe40.holds EE := ent_run envOk (fun _ h => by cases h) _ _ oe40_ok oe40_run
-- decani/office.valid, 833 steps
noncomputable def oe47 : Ent :=
  ⟨62, [.agg ⟨[.int .i64 (.ofNat 4), .int .i64 (.ofNat 28), .slice (some ⟨3, 0, none⟩) 3 3, .slice (some ⟨4, 0, none⟩) 2 2, .bool false, .slice (some ⟨5, 0, none⟩) 1 1, .bool true, .slice (some ⟨6, 0, none⟩) 1 1]⟩], 7,
   [(0, .cells false 0 [.int .i64 (.negSucc 0), .int .i64 (.negSucc 0), .int .i64 (.negSucc 0), .int .i64 (.negSucc 0)]),
    (1, .dead),
    (2, .dead),
    (3, .cells true 0 [.int .i64 (.ofNat 1), .int .i64 (.ofNat 2), .int .i64 (.ofNat 2), .int .i64 (.ofNat 1), .int .i64 (.ofNat 1), .int .i64 (.ofNat 1), .int .i64 (.ofNat 2), .int .i64 (.ofNat 2), .int .i64 (.ofNat 1)]),
    (4, .cells true 0 [.int .i64 (.ofNat 1), .int .i64 (.ofNat 2), .int .i64 (.ofNat 1), .int .i64 (.ofNat 1), .int .i64 (.ofNat 1), .int .i64 (.ofNat 2)]),
    (5, .cells true 0 [.int .i64 (.ofNat 1), .int .i64 (.ofNat 2), .int .i64 (.ofNat 2)]),
    (6, .cells true 0 [.int .i64 (.ofNat 0), .int .i64 (.ofNat 0), .int .i64 (.ofNat 3)])],
   [],
   .bool false⟩
theorem oe47_ok : oe47.okS EE.G = true := by kernel_rfl
theorem oe47_run : evT EE [] 1000000000 (.call oe47.f oe47.args) oe47.heap (keptK oe47) = some (.bool true) := by kernel_rfl
theorem oe47_h : oe47.holds EE := ent_run envOk (fun _ h => by cases h) _ _ oe47_ok oe47_run
-- decani/office.valid, 77 steps
noncomputable def oe54 : Ent :=
  ⟨62, [.agg ⟨[.int .i64 (.ofNat 4), .int .i64 (.ofNat 28), .slice (some ⟨3, 0, none⟩) 6 18446744073709551616, .slice (some ⟨4, 0, none⟩) 2 2, .bool false, .slice (some ⟨5, 0, none⟩) 1 1, .bool true, .slice none 0 0]⟩], 6,
   [(0, .cells false 0 [.int .i64 (.negSucc 0), .int .i64 (.negSucc 0), .int .i64 (.negSucc 0), .int .i64 (.negSucc 0)]),
    (1, .dead),
    (2, .dead),
    (3, .cells true 4 [.int .i64 (.ofNat 1), .int .i64 (.ofNat 2), .int .i64 (.ofNat 2), .int .i64 (.ofNat 1), .int .i64 (.ofNat 1), .int .i64 (.ofNat 1), .int .i64 (.ofNat 2), .int .i64 (.ofNat 2), .int .i64 (.ofNat 1), .int .i64 (.ofNat 1), .int .i64 (.ofNat 2), .int .i64 (.ofNat 2), .int .i64 (.ofNat 1), .int .i64 (.ofNat 1), .int .i64 (.ofNat 1), .int .i64 (.ofNat 2), .int .i64 (.ofNat 2), .int .i64 (.ofNat 1)]),
    (4, .cells true 0 [.int .i64 (.ofNat 1), .int .i64 (.ofNat 2), .int .i64 (.ofNat 1), .int .i64 (.ofNat 1), .int .i64 (.ofNat 1), .int .i64 (.ofNat 2)]),
    (5, .cells true 0 [.int .i64 (.ofNat 1), .int .i64 (.ofNat 2), .int .i64 (.ofNat 2)])],
   [],
   .bool false⟩
theorem oe54_ok : oe54.okS EE.G = true := by kernel_rfl
theorem oe54_run : evT EE [] 1000000000 (.call oe54.f oe54.args) oe54.heap (keptK oe54) = some (.bool true) := by kernel_rfl
theorem oe54_h : oe54.holds EE := ent_run envOk (fun _ h => by cases h) _ _ oe54_ok oe54_run
-- decani/office.valid, 43 steps
noncomputable def oe59 : Ent :=
  ⟨62, [.agg ⟨[.int .i64 (.ofNat 7), .int .i64 (.ofNat 28), .slice (some ⟨3, 0, none⟩) 3 3, .slice (some ⟨4, 0, none⟩) 2 2, .bool false, .slice (some ⟨5, 0, none⟩) 1 1, .bool true, .slice none 0 0]⟩], 6,
   [(0, .cells false 0 [.int .i64 (.negSucc 0), .int .i64 (.negSucc 0), .int .i64 (.negSucc 0), .int .i64 (.negSucc 0)]),
    (1, .dead),
    (2, .dead),
    (3, .cells true 0 [.int .i64 (.ofNat 1), .int .i64 (.ofNat 2), .int .i64 (.ofNat 2), .int .i64 (.ofNat 1), .int .i64 (.ofNat 1), .int .i64 (.ofNat 1), .int .i64 (.ofNat 2), .int .i64 (.ofNat 2), .int .i64 (.ofNat 1)]),
    (4, .cells true 0 [.int .i64 (.ofNat 1), .int .i64 (.ofNat 2), .int .i64 (.ofNat 1), .int .i64 (.ofNat 1), .int .i64 (.ofNat 1), .int .i64 (.ofNat 2)]),
    (5, .cells true 0 [.int .i64 (.ofNat 1), .int .i64 (.ofNat 2), .int .i64 (.ofNat 2)])],
   [],
   .bool false⟩
theorem oe59_ok : oe59.okS EE.G = true := by kernel_rfl
theorem oe59_run : evT EE [] 1000000000 (.call oe59.f oe59.args) oe59.heap (keptK oe59) = some (.bool true) := by kernel_rfl
theorem oe59_h : oe59.holds EE := ent_run envOk (fun _ h => by cases h) _ _ oe59_ok oe59_run
end Go.Proofs.YtkkjbmecomoglaaDoor
