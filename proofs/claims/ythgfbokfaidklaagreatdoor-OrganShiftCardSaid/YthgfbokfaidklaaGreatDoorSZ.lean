/- Short names for integers, and known calls without a table. No conditions. -/
import Derived.Test.YthgfbokfaidklaaGreatDoorEnv
set_option linter.all false
namespace Go.Proofs.YthgfbokfaidklaaGreatDoor
open Go.Ai
def iP (n : Nat) : Go.Value := .int .i64 (.ofNat n)
def iN (n : Nat) : Go.Value := .int .i64 (.negSucc n)
noncomputable def gC : List (Nat × Blk) := [(0, .cells false 0 [iN 60, iN 60, iN 60, iN 60, iN 60]), (1, .cells false 0 [iN 0, iN 0, iN 0, iN 0, iN 0]), (2, .cells false 0 [iP 40, iP 2, iP 40, iP 2, iP 2, iP 1, iP 6, iP 2, iP 9, iP 3])]
theorem ent0 (e : Ent) (h1 : e.okS EE.G = true) (h2 : evT EE [] 1000000000 (.call e.f e.args) e.heap (keptK e) = some (.bool true)) : e.holds EE := ent_run envOk (T := []) (fun _ h => by cases h) _ _ h1 h2
end Go.Proofs.YthgfbokfaidklaaGreatDoor
