/- Two tables of known calls as one. No conditions. -/
import Derived.Test.YthbgjljkepfhcabGreatDoorBMT
import Derived.Test.YthbgjljkepfhcabGreatDoorBWT
set_option linter.all false
namespace Go.Proofs.YthbgjljkepfhcabGreatDoor
open Go.Ai
noncomputable def baT : List Ent := bwT ++ bmT
theorem baT_holds : ∀ e ∈ baT, e.holds EE := fun e he => (List.mem_append.1 he).elim (bwT_holds e) (bmT_holds e)
end Go.Proofs.YthbgjljkepfhcabGreatDoor
