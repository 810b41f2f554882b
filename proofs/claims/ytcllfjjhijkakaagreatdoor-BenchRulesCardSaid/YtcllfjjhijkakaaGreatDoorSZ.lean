/- Short names for integers, and known calls without a table. No conditions. -/
import Derived.Test.YtcllfjjhijkakaaGreatDoorEnv
set_option linter.all false
namespace Go.Proofs.YtcllfjjhijkakaaGreatDoor
open Go.Ai
def iP (n : Nat) : Go.Value := .int .i64 (.ofNat n)
def iN (n : Nat) : Go.Value := .int .i64 (.negSucc n)
noncomputable def gC : List (Nat × Blk) := [(0, .cells false 0 [iN 0, iN 0, iN 0, iN 0, iN 0]), (1, .cells false 0 [iP 40, iP 2, iP 40, iP 2, iP 2, iP 1, iP 6, iP 2, iP 9, iP 3]), (2, .cells false 0 [iP 0, iP 0, iP 0, iP 0])]
noncomputable def hb0 : Nat × Blk := (3, .cells true 0 [iP 5, iP 6, iP 20, iP 21, iP 1, iP 2, iP 2, iP 3, iP 1, iP 3, iP 5, iP 8, iP 8, iP 18, iP 18, iP 0, iP 1, iP 1, iP 1, iP 0, iP 6, iP 7])
noncomputable def hb1 : Nat × Blk := (4, .cells true 0 [iP 0, .slice (some ⟨5, 0, none⟩) 2 2, iP 3, .slice (some ⟨6, 0, none⟩) 1 1, iP 3, .slice (some ⟨7, 0, none⟩) 1 1])
noncomputable def hb2 : Nat × Blk := (6, .cells true 0 [iP 8, iP 18, iP 1])
noncomputable def hb3 : Nat × Blk := (7, .cells true 0 [iP 10, iP 18, iP 1])
noncomputable def hb4 : Nat × Blk := (11, .cells true 2 [iP 1])
noncomputable def hb5 : Nat × Blk := (5, .cells true 0 [iP 6, iP 24, iP 1, iP 8, iP 18, iP 1])
noncomputable def hb6 : Nat × Blk := (8, .map [⟨.agg ⟨[iP 0, iP 1]⟩, .slice (some ⟨9, 0, none⟩) 2 18446744073709551616, 0⟩, ⟨.agg ⟨[iP 1, iP 0]⟩, .slice (some ⟨10, 0, none⟩) 1 18446744073709551616, 1⟩, ⟨.agg ⟨[iP 2, iP 0]⟩, .slice (some ⟨11, 0, none⟩) 1 18446744073709551616, 2⟩] 3)
noncomputable def hb7 : Nat × Blk := (9, .cells true 2 [iP 0, iP 1])
noncomputable def hb8 : Nat × Blk := (5, .cells true 0 [iP 6, iP 20, iP 1, iP 8, iP 18, iP 1])
noncomputable def hb9 : Nat × Blk := (8, .map [⟨.agg ⟨[iP 0, iP 0]⟩, .slice (some ⟨9, 0, none⟩) 1 18446744073709551616, 0⟩, ⟨.agg ⟨[iP 0, iP 1]⟩, .slice (some ⟨10, 0, none⟩) 2 18446744073709551616, 1⟩, ⟨.agg ⟨[iP 1, iP 0]⟩, .slice (some ⟨11, 0, none⟩) 1 18446744073709551616, 2⟩, ⟨.agg ⟨[iP 2, iP 0]⟩, .slice (some ⟨12, 0, none⟩) 1 18446744073709551616, 3⟩] 4)
theorem ent0 (e : Ent) (h1 : e.okS EE.G = true) (h2 : evT EE [] 1000000000 (.call e.f e.args) e.heap (keptK e) = some (.bool true)) : e.holds EE := ent_run envOk (T := []) (fun _ h => by cases h) _ _ h1 h2
end Go.Proofs.YtcllfjjhijkakaaGreatDoor
