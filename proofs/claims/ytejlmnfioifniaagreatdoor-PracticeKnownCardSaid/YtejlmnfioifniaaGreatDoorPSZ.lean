/- Short names for integers, and known calls without a table. No conditions. -/
import Derived.Test.YtejlmnfioifniaaGreatDoorEnv
set_option linter.all false
namespace Go.Proofs.YtejlmnfioifniaaGreatDoor
open Go.Ai
def iP (n : Nat) : Go.Value := .int .i64 (.ofNat n)
def iN (n : Nat) : Go.Value := .int .i64 (.negSucc n)
noncomputable def gC : List (Nat × Blk) := [(0, .cells false 0 [iP 9, iP 9, iP 9]), (1, .cells false 0 [iN 0, iN 0]), (2, .cells false 0 [iN 0, iN 0, iN 0]), (3, .cells false 0 [iP 5, iP 3]), (4, .cells false 0 [iP 6, iP 6, iP 6, iP 6, iP 6])]
end Go.Proofs.YtejlmnfioifniaaGreatDoor
