/- The package-level variables' blocks, and known calls without a table. No conditions. -/
import Derived.Test.YtmjpnohpmfmdlaaGreatDoorEnv
set_option linter.all false
namespace Go.Proofs.YtmjpnohpmfmdlaaGreatDoor
open Go.Ai
noncomputable def gC : List (Nat × Blk) := [(0, .dead), (1, .cells false 0 [iN 0, iN 0]), (2, .cells false 0 [iN 300, iN 300]), (3, .cells false 0 [iP 6, iP 6, iP 6, iP 6, iP 6]), (4, .dead), (5, .cells false 0 [iN 0, iN 0, iN 0])]
theorem ent0 (e : Ent) (h1 : e.okS EE.G = true) (h2 : evT EE [] 1000000000 (.call e.f e.args) e.heap (keptK e) = some (.bool true)) : e.holds EE := ent_run envOk (T := []) (fun _ h => by cases h) _ _ h1 h2
end Go.Proofs.YtmjpnohpmfmdlaaGreatDoor
