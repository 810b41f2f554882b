/-
  NARROWER THAN 'FOR EVERY INPUT', by the rows' own cells (each row's printed sentence says how): OrganSings: laid · OrganTurn: laid · OrganLess: laid · OrganShift: laid.
  DERIVED. THE GIVEN ROWS OF THIS SEAT. 4 by the template 'for every input the law returns true; each argument reads behind the call as it read before'; 0 by the template 'total and deterministic' (their statements: YthgfbokfaidklaaGreatDoorTotals.lean).
  GIVEN WITH THE SEED: the statements are not yours to turn. If you find one false, say at which input.
  Laid BY PROGRAM, IN A SANDBOX (cutbox-rows.mjs): the forced cells as the released guide's own fill.sh prints them over the translation b2b61b052655caf3… (all of the seat's roots in one cut). By AI agents, Wed Nov 11 2026. No macro, syntax, notation, axiom, sorry.
-/
import Derived.Test.YthgfbokfaidklaaGreatDoorChecked
import GoSem.Claim
import GoSem.ClaimJoined
import GoSem.ClaimMapViews
import Derived.JoinedTies
import Derived.KernelRfl
namespace Go.Proofs.YthgfbokfaidklaaGreatDoor
/- THE CELL 'sum', in the pinned program and in every row, IS THE sha256 OF THE DUMP (.gsa) THAT YthgfbokfaidklaaGreatDoorProg.lean LOADS. Nothing in Lean hashes anything: it is a label: what it is worth is what the hold of that sum in a sandbox is worth. -/
noncomputable def Tryz.pinned : Pinned := { name := "ythgfbokfaidklaagreatdoor", sum := "b2b61b052655caf38ec31fe60390535a2cd8ee6ee4f7f0cc83b97741b5397ab6", checked := Tryz.checked }
namespace Rows
def none {H : Type} : Left H := { results := [], args := [] }

/- WHAT THE LISTED PACKAGE-LEVEL VARIABLES READ AS WHEN THE CALL BEGINS. Each datum BY PROGRAM (the guide's laid-datum.mjs) off the statement by which the dump's own 'gosem.cut.vars' lays the variable. In a bare row this is a premise. The card (YthgfbokfaidklaaGreatDoorCards.lean) ties it to the program's text. -/
def laid_decani_voice_nothing {H : Type} : DataW H := .agg [.lit (.int .i64 (-1)), .lit (.int .i64 (-1)), .lit (.int .i64 (-1)), .lit (.int .i64 (-1)), .lit (.int .i64 (-1))]
def laid_decani_voice_bounds {H : Type} : DataW H := .agg [.agg [.lit (.int .i64 40), .lit (.int .i64 2)], .agg [.lit (.int .i64 40), .lit (.int .i64 2)], .agg [.lit (.int .i64 2), .lit (.int .i64 1)], .agg [.lit (.int .i64 6), .lit (.int .i64 2)], .agg [.lit (.int .i64 9), .lit (.int .i64 3)]]
def laid_decani_organ_nothing {H : Type} : DataW H := .agg [.lit (.int .i64 (-61)), .lit (.int .i64 (-61)), .lit (.int .i64 (-61)), .lit (.int .i64 (-61)), .lit (.int .i64 (-61))]

/-- 'decanilaw08.OrganSings': WHATEVER THE INPUT: true; the input reads as it did. -/
def organSingsSpec : ChangeSpec := { name := "organSings", fn := fun _ => fun
  | [d1, d2] => { results := [.lit (.bool true)], args := [d1, d2] }
  | _ => none }
def organSingsRow : OpenClaim := { program := "ythgfbokfaidklaagreatdoor", sum := "b2b61b052655caf38ec31fe60390535a2cd8ee6ee4f7f0cc83b97741b5397ab6", func := "decani/decanilaw08.OrganSings", spec := "organSings", unfollowed := true, recurses := true, named := ["decani/voice.bounds", "decani/organ.nothing", "decani/voice.nothing"], plainKeys := false, apart := false, laid := [("decani/voice.nothing", laid_decani_voice_nothing), ("decani/voice.bounds", laid_decani_voice_bounds), ("decani/organ.nothing", laid_decani_organ_nothing)] }
def OrganSingsSaid : Prop := organSingsRow.holds Tryz.pinned (OpenSpec.ofChange organSingsSpec)

/-- ITS FALSE NEIGHBOUR: 'it returns false'. Refute it at one input. -/
def organSingsWrong : ChangeSpec := { name := "organSings", fn := fun _ => fun
  | [d1, d2] => { results := [.lit (.bool false)], args := [d1, d2] }
  | _ => none }
def OrganSingsWrongFalsely : Prop := organSingsRow.holds Tryz.pinned (OpenSpec.ofChange organSingsWrong)

/-- 'decanilaw08.OrganTurn': WHATEVER THE INPUT: true; the input reads as it did. -/
def organTurnSpec : ChangeSpec := { name := "organTurn", fn := fun _ => fun
  | [d1, d2] => { results := [.lit (.bool true)], args := [d1, d2] }
  | _ => none }
def organTurnRow : OpenClaim := { program := "ythgfbokfaidklaagreatdoor", sum := "b2b61b052655caf38ec31fe60390535a2cd8ee6ee4f7f0cc83b97741b5397ab6", func := "decani/decanilaw08.OrganTurn", spec := "organTurn", unfollowed := true, recurses := true, named := ["decani/voice.bounds", "decani/organ.nothing", "decani/voice.nothing"], plainKeys := false, apart := false, laid := [("decani/voice.nothing", laid_decani_voice_nothing), ("decani/voice.bounds", laid_decani_voice_bounds), ("decani/organ.nothing", laid_decani_organ_nothing)] }
def OrganTurnSaid : Prop := organTurnRow.holds Tryz.pinned (OpenSpec.ofChange organTurnSpec)

/-- ITS FALSE NEIGHBOUR: 'it returns false'. Refute it at one input. -/
def organTurnWrong : ChangeSpec := { name := "organTurn", fn := fun _ => fun
  | [d1, d2] => { results := [.lit (.bool false)], args := [d1, d2] }
  | _ => none }
def OrganTurnWrongFalsely : Prop := organTurnRow.holds Tryz.pinned (OpenSpec.ofChange organTurnWrong)

/-- 'decanilaw08.OrganLess': WHATEVER THE INPUT: true; the input reads as it did. -/
def organLessSpec : ChangeSpec := { name := "organLess", fn := fun _ => fun
  | [d1, d2, d3] => { results := [.lit (.bool true)], args := [d1, d2, d3] }
  | _ => none }
def organLessRow : OpenClaim := { program := "ythgfbokfaidklaagreatdoor", sum := "b2b61b052655caf38ec31fe60390535a2cd8ee6ee4f7f0cc83b97741b5397ab6", func := "decani/decanilaw08.OrganLess", spec := "organLess", unfollowed := true, recurses := true, named := ["decani/voice.bounds", "decani/organ.nothing", "decani/voice.nothing"], plainKeys := false, apart := false, laid := [("decani/voice.nothing", laid_decani_voice_nothing), ("decani/voice.bounds", laid_decani_voice_bounds), ("decani/organ.nothing", laid_decani_organ_nothing)] }
def OrganLessSaid : Prop := organLessRow.holds Tryz.pinned (OpenSpec.ofChange organLessSpec)

/-- ITS FALSE NEIGHBOUR: 'it returns false'. Refute it at one input. -/
def organLessWrong : ChangeSpec := { name := "organLess", fn := fun _ => fun
  | [d1, d2, d3] => { results := [.lit (.bool false)], args := [d1, d2, d3] }
  | _ => none }
def OrganLessWrongFalsely : Prop := organLessRow.holds Tryz.pinned (OpenSpec.ofChange organLessWrong)

/-- 'decanilaw08.OrganShift': WHATEVER THE INPUT: true; the input reads as it did. -/
def organShiftSpec : ChangeSpec := { name := "organShift", fn := fun _ => fun
  | [d1, d2] => { results := [.lit (.bool true)], args := [d1, d2] }
  | _ => none }
def organShiftRow : OpenClaim := { program := "ythgfbokfaidklaagreatdoor", sum := "b2b61b052655caf38ec31fe60390535a2cd8ee6ee4f7f0cc83b97741b5397ab6", func := "decani/decanilaw08.OrganShift", spec := "organShift", unfollowed := true, recurses := true, named := ["decani/voice.bounds", "decani/organ.nothing", "decani/voice.nothing"], plainKeys := false, apart := false, laid := [("decani/voice.nothing", laid_decani_voice_nothing), ("decani/voice.bounds", laid_decani_voice_bounds), ("decani/organ.nothing", laid_decani_organ_nothing)] }
def OrganShiftSaid : Prop := organShiftRow.holds Tryz.pinned (OpenSpec.ofChange organShiftSpec)

/-- ITS FALSE NEIGHBOUR: 'it returns false'. Refute it at one input. -/
def organShiftWrong : ChangeSpec := { name := "organShift", fn := fun _ => fun
  | [d1, d2] => { results := [.lit (.bool false)], args := [d1, d2] }
  | _ => none }
def OrganShiftWrongFalsely : Prop := organShiftRow.holds Tryz.pinned (OpenSpec.ofChange organShiftWrong)

/- THE SECOND FORM. 'bulk': how many values and letters a reading holds, each counted each time it is reached (what is shared counts as often as it is met; a slice's spare places count too). A statement '..UptoSaid' is the law's where the arguments, and the package variables that the reading takes, are together of bulk at most 1048576: NARROWER than '..Said'. Prove '..Said' where nothing that the law and all that it calls make is longer than what came in: it says more and counts as full. Else prove '..UptoSaid'. A law counts once. -/
mutual
def uptoBulk {H : Type} : DataW H → Nat
  | .lit (.string bytes) => bytes.length + 1
  | .lit _ => 1
  | .nil => 1
  | .ptr d => uptoBulk d + 1
  | .slice elems spare => uptoBulkAll elems + uptoBulkAll spare + 1
  | .agg parts => uptoBulkAll parts + 1
  | .iface _ d => uptoBulk d + 1
  | .map entries => uptoBulkEntries entries + 1
  | .held _ => 1
def uptoBulkAll {H : Type} : List (DataW H) → Nat
  | [] => 0
  | d :: r => uptoBulk d + uptoBulkAll r
def uptoBulkEntries {H : Type} : List (Lit × DataW H) → Nat
  | [] => 0
  | x :: r => uptoBulkEntry x + uptoBulkEntries r
def uptoBulkEntry {H : Type} : Lit × DataW H → Nat
  | (.string bytes, d) => bytes.length + uptoBulk d + 1
  | (_, d) => uptoBulk d + 1
 end
def uptoSmall : (H : Type) → List (DataW H) → Bool := fun _ ds => decide (uptoBulkAll ds ≤ 1048576)
def OpenSpec.upto (s : _root_.Go.ChangeSpec) : _root_.Go.OpenSpec := { _root_.Go.OpenSpec.ofChange s with cond := some uptoSmall }

/-- 'decanilaw08.OrganSings', WHERE WHAT IT READS IS OF BULK AT MOST 1048576: true; the input reads as it did. -/
def organSingsUptoRow : OpenClaim := { program := "ythgfbokfaidklaagreatdoor", sum := "b2b61b052655caf38ec31fe60390535a2cd8ee6ee4f7f0cc83b97741b5397ab6", func := "decani/decanilaw08.OrganSings", spec := "organSings", unfollowed := true, recurses := true, named := ["decani/voice.bounds", "decani/organ.nothing", "decani/voice.nothing"], plainKeys := false, apart := false, laid := [("decani/voice.nothing", laid_decani_voice_nothing), ("decani/voice.bounds", laid_decani_voice_bounds), ("decani/organ.nothing", laid_decani_organ_nothing)], narrowed := true }
def OrganSingsUptoSaid : Prop := organSingsUptoRow.holds Tryz.pinned (OpenSpec.upto organSingsSpec)

/-- 'decanilaw08.OrganTurn', WHERE WHAT IT READS IS OF BULK AT MOST 1048576: true; the input reads as it did. -/
def organTurnUptoRow : OpenClaim := { program := "ythgfbokfaidklaagreatdoor", sum := "b2b61b052655caf38ec31fe60390535a2cd8ee6ee4f7f0cc83b97741b5397ab6", func := "decani/decanilaw08.OrganTurn", spec := "organTurn", unfollowed := true, recurses := true, named := ["decani/voice.bounds", "decani/organ.nothing", "decani/voice.nothing"], plainKeys := false, apart := false, laid := [("decani/voice.nothing", laid_decani_voice_nothing), ("decani/voice.bounds", laid_decani_voice_bounds), ("decani/organ.nothing", laid_decani_organ_nothing)], narrowed := true }
def OrganTurnUptoSaid : Prop := organTurnUptoRow.holds Tryz.pinned (OpenSpec.upto organTurnSpec)

/-- 'decanilaw08.OrganLess', WHERE WHAT IT READS IS OF BULK AT MOST 1048576: true; the input reads as it did. -/
def organLessUptoRow : OpenClaim := { program := "ythgfbokfaidklaagreatdoor", sum := "b2b61b052655caf38ec31fe60390535a2cd8ee6ee4f7f0cc83b97741b5397ab6", func := "decani/decanilaw08.OrganLess", spec := "organLess", unfollowed := true, recurses := true, named := ["decani/voice.bounds", "decani/organ.nothing", "decani/voice.nothing"], plainKeys := false, apart := false, laid := [("decani/voice.nothing", laid_decani_voice_nothing), ("decani/voice.bounds", laid_decani_voice_bounds), ("decani/organ.nothing", laid_decani_organ_nothing)], narrowed := true }
def OrganLessUptoSaid : Prop := organLessUptoRow.holds Tryz.pinned (OpenSpec.upto organLessSpec)

/-- 'decanilaw08.OrganShift', WHERE WHAT IT READS IS OF BULK AT MOST 1048576: true; the input reads as it did. -/
def organShiftUptoRow : OpenClaim := { program := "ythgfbokfaidklaagreatdoor", sum := "b2b61b052655caf38ec31fe60390535a2cd8ee6ee4f7f0cc83b97741b5397ab6", func := "decani/decanilaw08.OrganShift", spec := "organShift", unfollowed := true, recurses := true, named := ["decani/voice.bounds", "decani/organ.nothing", "decani/voice.nothing"], plainKeys := false, apart := false, laid := [("decani/voice.nothing", laid_decani_voice_nothing), ("decani/voice.bounds", laid_decani_voice_bounds), ("decani/organ.nothing", laid_decani_organ_nothing)], narrowed := true }
def OrganShiftUptoSaid : Prop := organShiftUptoRow.holds Tryz.pinned (OpenSpec.upto organShiftSpec)

end Rows
end Go.Proofs.YthgfbokfaidklaaGreatDoor
