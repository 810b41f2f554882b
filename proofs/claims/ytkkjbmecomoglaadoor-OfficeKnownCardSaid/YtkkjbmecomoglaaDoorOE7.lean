/- Known calls, part 7: what single calls hand back, at small heaps, by the kernel's own run of the evaluator. No conditions. -/
import Derived.Test.YtkkjbmecomoglaaDoorEnv
set_option linter.all false
namespace Go.Proofs.YtkkjbmecomoglaaDoor
open Go.Ai
set_option maxRecDepth 1000000
-- (decani/office.ask).all, 10352 steps
noncomputable def oe7 : Ent :=
  ⟨51, [.agg ⟨[.func (.func 56) ⟨[]⟩ ⟨[.pointer (some ⟨3, 0, none⟩), .pointer (some ⟨4, 0, none⟩)]⟩]⟩, .agg ⟨[.int .i64 (.ofNat 4), .int .i64 (.ofNat 28), .slice (some ⟨5, 0, none⟩) 3 3, .slice (some ⟨6, 0, none⟩) 2 2, .bool false, .slice (some ⟨7, 0, none⟩) 1 1, .bool true, .slice none 0 0]⟩], 8,
   [(0, .cells false 0 [.int .i64 (.negSucc 0), .int .i64 (.negSucc 0), .int .i64 (.negSucc 0), .int .i64 (.negSucc 0)]),
    (1, .dead),
    (2, .dead),
    (3, .cells true 0 [.int .i64 (.ofNat 0)]),
    (4, .cells true 0 [.int .i64 (.ofNat 3)]),
    (5, .cells true 0 [.int .i64 (.ofNat 1), .int .i64 (.ofNat 2), .int .i64 (.ofNat 2), .int .i64 (.ofNat 1), .int .i64 (.ofNat 1), .int .i64 (.ofNat 1), .int .i64 (.ofNat 2), .int .i64 (.ofNat 2), .int .i64 (.ofNat 1)]),
    (6, .cells true 0 [.int .i64 (.ofNat 1), .int .i64 (.ofNat 2), .int .i64 (.ofNat 1), .int .i64 (.ofNat 1), .int .i64 (.ofNat 1), .int .i64 (.ofNat 2)]),
    (7, .cells true 0 [.int .i64 (.ofNat 1), .int .i64 (.ofNat 2), .int .i64 (.ofNat 2)])],
   [(2, [.int .i64 (.negSucc 0), .int .i64 (.ofNat 1)])],
   .slice (some ⟨8, 0, none⟩) 2 18446744073709551616⟩
theorem oe7_ok : oe7.okS EE.G = true := by kernel_rfl
theorem oe7_run : evT EE [] 1000000000 (.call oe7.f oe7.args) oe7.heap (keptK oe7) = some (.bool true) := by kernel_rfl
theorem oe7_h : oe7.holds EE := ent_run envOk (fun _ h => by cases h) _ _ oe7_ok oe7_run
-- (decani/office.ask).all, 10319 steps
noncomputable def oe12 : Ent :=
  ⟨51, [.agg ⟨[.func (.func 56) ⟨[]⟩ ⟨[.pointer (some ⟨3, 0, none⟩), .pointer (some ⟨4, 0, none⟩)]⟩]⟩, .agg ⟨[.int .i64 (.ofNat 4), .int .i64 (.ofNat 28), .slice (some ⟨5, 0, none⟩) 3 3, .slice (some ⟨6, 0, none⟩) 2 2, .bool false, .slice (some ⟨7, 0, none⟩) 1 1, .bool true, .slice none 0 0]⟩], 8,
   [(0, .cells false 0 [.int .i64 (.negSucc 0), .int .i64 (.negSucc 0), .int .i64 (.negSucc 0), .int .i64 (.negSucc 0)]),
    (1, .dead),
    (2, .dead),
    (3, .cells true 0 [.int .i64 (.ofNat 0)]),
    (4, .cells true 0 [.int .i64 (.ofNat 0)]),
    (5, .cells true 0 [.int .i64 (.ofNat 1), .int .i64 (.ofNat 2), .int .i64 (.ofNat 2), .int .i64 (.ofNat 1), .int .i64 (.ofNat 1), .int .i64 (.ofNat 1), .int .i64 (.ofNat 2), .int .i64 (.ofNat 2), .int .i64 (.ofNat 1)]),
    (6, .cells true 0 [.int .i64 (.ofNat 1), .int .i64 (.ofNat 2), .int .i64 (.ofNat 1), .int .i64 (.ofNat 1), .int .i64 (.ofNat 1), .int .i64 (.ofNat 2)]),
    (7, .cells true 0 [.int .i64 (.ofNat 1), .int .i64 (.ofNat 2), .int .i64 (.ofNat 2)])],
   [(2, [.int .i64 (.ofNat 28), .int .i64 (.ofNat 0)])],
   .slice (some ⟨8, 0, none⟩) 1 18446744073709551616⟩
theorem oe12_ok : oe12.okS EE.G = true := by kernel_rfl
theorem oe12_run : evT EE [] 1000000000 (.call oe12.f oe12.args) oe12.heap (keptK oe12) = some (.bool true) := by kernel_rfl
theorem oe12_h : oe12.holds EE := ent_run envOk (fun _ h => by cases h) _ _ oe12_ok oe12_run
-- (decani/office.ask).often, 10074 steps
noncomputable def oe22 : Ent :=
  ⟨55, [.agg ⟨[.func (.func 57) ⟨[]⟩ ⟨[.pointer (some ⟨3, 0, none⟩)]⟩]⟩, .agg ⟨[.int .i64 (.ofNat 4), .int .i64 (.ofNat 28), .slice (some ⟨4, 0, none⟩) 3 3, .slice (some ⟨5, 0, none⟩) 2 2, .bool false, .slice (some ⟨6, 0, none⟩) 1 1, .bool true, .slice none 0 0]⟩], 7,
   [(0, .cells false 0 [.int .i64 (.negSucc 0), .int .i64 (.negSucc 0), .int .i64 (.negSucc 0), .int .i64 (.negSucc 0)]),
    (1, .dead),
    (2, .dead),
    (3, .cells true 0 [.int .i64 (.ofNat 0)]),
    (4, .cells true 0 [.int .i64 (.ofNat 1), .int .i64 (.ofNat 2), .int .i64 (.ofNat 2), .int .i64 (.ofNat 1), .int .i64 (.ofNat 1), .int .i64 (.ofNat 1), .int .i64 (.ofNat 2), .int .i64 (.ofNat 2), .int .i64 (.ofNat 1)]),
    (5, .cells true 0 [.int .i64 (.ofNat 1), .int .i64 (.ofNat 2), .int .i64 (.ofNat 1), .int .i64 (.ofNat 1), .int .i64 (.ofNat 1), .int .i64 (.ofNat 2)]),
    (6, .cells true 0 [.int .i64 (.ofNat 1), .int .i64 (.ofNat 2), .int .i64 (.ofNat 2)])],
   [],
   .int .i64 (.ofNat 2)⟩
theorem oe22_ok : oe22.okS EE.G = true := by kernel_rfl
theorem oe22_run : evT EE [] 1000000000 (.call oe22.f oe22.args) oe22.heap (keptK oe22) = some (.bool true) := by kernel_rfl
theorem oe22_h : oe22.holds EE := ent_run envOk (fun _ h => by cases h) _ _ oe22_ok oe22_run
-- (decani/office.ledger).canBeTrue, 3889 steps
noncomputable def oe39 : Ent :=
  ⟨43, [.agg ⟨[.int .i64 (.ofNat 4), .int .i64 (.ofNat 28), .slice (some ⟨3, 0, none⟩) 3 3, .slice (some ⟨4, 0, none⟩) 2 2, .bool false, .slice (some ⟨5, 0, none⟩) 1 1, .bool true, .slice (some ⟨6, 0, none⟩) 2 18446744073709551616]⟩], 7,
   [(0, .cells false 0 [.int .i64 (.negSucc 0), .int .i64 (.negSucc 0), .int .i64 (.negSucc 0), .int .i64 (.negSucc 0)]),
    (1, .dead),
    (2, .dead),
    (3, .cells true 0 [.int .i64 (.ofNat 1), .int .i64 (.ofNat 2), .int .i64 (.ofNat 2), .int .i64 (.ofNat 1), .int .i64 (.ofNat 1), .int .i64 (.ofNat 1), .int .i64 (.ofNat 2), .int .i64 (.ofNat 2), .int .i64 (.ofNat 1)]),
    (4, .cells true 0 [.int .i64 (.ofNat 1), .int .i64 (.ofNat 2), .int .i64 (.ofNat 1), .int .i64 (.ofNat 1), .int .i64 (.ofNat 1), .int .i64 (.ofNat 2)]),
    (5, .cells true 0 [.int .i64 (.ofNat 1), .int .i64 (.ofNat 2), .int .i64 (.ofNat 2)]),
    (6, .cells true 4 [.int .i64 (.ofNat 0), .int .i64 (.ofNat 3), .int .i64 (.ofNat 2), .int .i64 (.ofNat 1), .int .i64 (.ofNat 1), .int .i64 (.ofNat 0)])],
   [],
   .bool false⟩
theorem oe39_ok : oe39.okS EE.G = true := by kernel_rfl
theorem oe39_run : evT EE [] 1000000000 (.call oe39.f oe39.args) oe39.heap (keptK oe39) = some (.bool true) := by kernel_rfl
theorem oe39_h : oe39.holds EE := ent_run envOk (fun _ h => by cases h) _ _ oe39_ok oe39_run
-- decani/office.valid, 1292 steps
noncomputable def oe41 : Ent :=
  ⟨62, [.agg ⟨[.int .i64 (.ofNat 4), .int .i64 (.ofNat 28), .slice (some ⟨3, 0, none⟩) 3 3, .slice (some ⟨4, 0, none⟩) 2 2, .bool false, .slice (some ⟨5, 0, none⟩) 1 1, .bool true, .slice (some ⟨6, 0, none⟩) 1 1]⟩], 7,
   [(0, .cells false 0 [.int .i64 (.negSucc 0), .int .i64 (.negSucc 0), .int .i64 (.negSucc 0), .int .i64 (.negSucc 0)]),
    (1, .dead),
    (2, .dead),
    (3, .cells true 0 [.int .i64 (.ofNat 1), .int .i64 (.ofNat 2), .int .i64 (.ofNat 2), .int .i64 (.ofNat 1), .int .i64 (.ofNat 1), .int .i64 (.ofNat 1), .int .i64 (.ofNat 2), .int .i64 (.ofNat 2), .int .i64 (.ofNat 1)]),
    (4, .cells true 0 [.int .i64 (.ofNat 1), .int .i64 (.ofNat 2), .int .i64 (.ofNat 1), .int .i64 (.ofNat 1), .int .i64 (.ofNat 1), .int .i64 (.ofNat 2)]),
    (5, .cells true 0 [.int .i64 (.ofNat 1), .int .i64 (.ofNat 2), .int .i64 (.ofNat 2)]),
    (6, .cells true 0 [.int .i64 (.ofNat 0), .int .i64 (.ofNat 3), .int .i64 (.ofNat 2)])],
   [],
   .bool true⟩
theorem oe41_ok : oe41.okS EE.G = true := by kernel_rfl
theorem oe41_run : evT EE [] 1000000000 (.call oe41.f oe41.args) oe41.heap (keptK oe41) = some (.bool true) := by kernel_rfl
theorem oe41_h : oe41.holds EE := ent_run envOk (fun _ h => by cases h) _ _ oe41_ok oe41_run
-- decani/office.valid, 840 steps
noncomputable def oe46 : Ent :=
  ⟨62, [.agg ⟨[.int .i64 (.ofNat 4), .int .i64 (.ofNat 28), .slice (some ⟨3, 0, none⟩) 3 3, .slice (some ⟨4, 0, none⟩) 2 2, .bool false, .slice (some ⟨5, 0, none⟩) 1 1, .bool true, .slice none 0 0]⟩], 6,
   [(0, .cells false 0 [.int .i64 (.negSucc 0), .int .i64 (.negSucc 0), .int .i64 (.negSucc 0), .int .i64 (.negSucc 0)]),
    (1, .dead),
    (2, .dead),
    (3, .cells true 0 [.int .i64 (.ofNat 1), .int .i64 (.ofNat 2), .int .i64 (.ofNat 2), .int .i64 (.ofNat 1), .int .i64 (.ofNat 1), .int .i64 (.ofNat 1), .int .i64 (.ofNat 2), .int .i64 (.ofNat 2), .int .i64 (.ofNat 1)]),
    (4, .cells true 0 [.int .i64 (.ofNat 1), .int .i64 (.ofNat 2), .int .i64 (.ofNat 3), .int .i64 (.ofNat 1), .int .i64 (.ofNat 1), .int .i64 (.ofNat 2)]),
    (5, .cells true 0 [.int .i64 (.ofNat 1), .int .i64 (.ofNat 2), .int .i64 (.ofNat 2)])],
   [],
   .bool false⟩
theorem oe46_ok : oe46.okS EE.G = true := by kernel_rfl
theorem oe46_run : evT EE [] 1000000000 (.call oe46.f oe46.args) oe46.heap (keptK oe46) = some (.bool true) := by kernel_rfl
theorem oe46_h : oe46.holds EE := ent_run envOk (fun _ h => by cases h) _ _ oe46_ok oe46_run
-- decani/office.valid, 211 steps
noncomputable def oe53 : Ent :=
  ⟨62, [.agg ⟨[.int .i64 (.ofNat 2), .int .i64 (.ofNat 28), .slice (some ⟨3, 0, none⟩) 3 3, .slice (some ⟨4, 0, none⟩) 2 2, .bool false, .slice (some ⟨5, 0, none⟩) 1 1, .bool true, .slice none 0 0]⟩], 6,
   [(0, .cells false 0 [.int .i64 (.negSucc 0), .int .i64 (.negSucc 0), .int .i64 (.negSucc 0), .int .i64 (.negSucc 0)]),
    (1, .dead),
    (2, .dead),
    (3, .cells true 0 [.int .i64 (.ofNat 1), .int .i64 (.ofNat 2), .int .i64 (.ofNat 2), .int .i64 (.ofNat 1), .int .i64 (.ofNat 1), .int .i64 (.ofNat 1), .int .i64 (.ofNat 2), .int .i64 (.ofNat 2), .int .i64 (.ofNat 1)]),
    (4, .cells true 0 [.int .i64 (.ofNat 1), .int .i64 (.ofNat 2), .int .i64 (.ofNat 1), .int .i64 (.ofNat 1), .int .i64 (.ofNat 1), .int .i64 (.ofNat 2)]),
    (5, .cells true 0 [.int .i64 (.ofNat 1), .int .i64 (.ofNat 2), .int .i64 (.ofNat 2)])],
   [],
   .bool false⟩
theorem oe53_ok : oe53.okS EE.G = true := by kernel_rfl
theorem oe53_run : evT EE [] 1000000000 (.call oe53.f oe53.args) oe53.heap (keptK oe53) = some (.bool true) := by kernel_rfl
theorem oe53_h : oe53.holds EE := ent_run envOk (fun _ h => by cases h) _ _ oe53_ok oe53_run
-- decani/office.valid, 43 steps
noncomputable def oe58 : Ent :=
  ⟨62, [.agg ⟨[.int .i64 (.ofNat 0), .int .i64 (.ofNat 0), .slice none 0 0, .slice none 0 0, .bool false, .slice none 0 0, .bool false, .slice none 0 0]⟩], 3,
   [(0, .cells false 0 [.int .i64 (.negSucc 0), .int .i64 (.negSucc 0), .int .i64 (.negSucc 0), .int .i64 (.negSucc 0)]),
    (1, .dead),
    (2, .dead)],
   [],
   .bool false⟩
theorem oe58_ok : oe58.okS EE.G = true := by kernel_rfl
theorem oe58_run : evT EE [] 1000000000 (.call oe58.f oe58.args) oe58.heap (keptK oe58) = some (.bool true) := by kernel_rfl
theorem oe58_h : oe58.holds EE := ent_run envOk (fun _ h => by cases h) _ _ oe58_ok oe58_run
end Go.Proofs.YtkkjbmecomoglaaDoor
