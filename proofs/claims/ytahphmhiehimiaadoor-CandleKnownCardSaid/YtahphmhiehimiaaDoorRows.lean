/-
  NARROWER THAN 'FOR EVERY INPUT', by the rows' own cells (each row's printed sentence says how): CandleKnown: laid.
  DERIVED. THE GIVEN ROWS OF THIS SEAT. 1 by the template 'for every input the law returns true; each argument reads behind the call as it read before'; 0 by the template 'total and deterministic' (their statements: YtahphmhiehimiaaDoorTotals.lean).
  GIVEN WITH THE SEED: the statements are not yours to turn. If you find one false, say at which input.
  Laid BY PROGRAM, IN A SANDBOX (cutbox-rows.mjs): the forced cells as the released guide's own fill.sh prints them over the translation d7d915fc017e668b… (all of the seat's roots in one cut). By AI agents, Wed Nov 11 2026. No macro, syntax, notation, axiom, sorry.
-/
import Derived.Test.YtahphmhiehimiaaDoorChecked
import GoSem.Claim
import GoSem.ClaimJoined
import GoSem.ClaimMapViews
import Derived.JoinedTies
import Derived.KernelRfl
namespace Go.Proofs.YtahphmhiehimiaaDoor
/- THE CELL 'sum', in the pinned program and in every row, IS THE sha256 OF THE DUMP (.gsa) THAT YtahphmhiehimiaaDoorProg.lean LOADS. Nothing in Lean hashes anything: it is a label: what it is worth is what the hold of that sum in a sandbox is worth. -/
noncomputable def Tryd.pinned : Pinned := { name := "ytahphmhiehimiaadoor", sum := "d7d915fc017e668be1d3a8ff730de2d095b72298e9894f0b7cb580f1ed7574c3", checked := Tryd.checked }
namespace Rows
def none {H : Type} : Left H := { results := [], args := [] }

/- WHAT THE LISTED PACKAGE-LEVEL VARIABLES READ AS WHEN THE CALL BEGINS. Each datum BY PROGRAM (the guide's laid-datum.mjs) off the statement by which the dump's own 'gosem.cut.vars' lays the variable. In a bare row this is a premise. The card (YtahphmhiehimiaaDoorCards.lean) ties it to the program's text. -/
def laid_decani_candle_nothing {H : Type} : DataW H := .agg [.lit (.int .i64 (-301)), .lit (.int .i64 (-301))]

/-- 'decanilaw06.CandleKnown': WHATEVER THE INPUT: true; the input reads as it did. -/
def candleKnownSpec : ChangeSpec := { name := "candleKnown", fn := fun _ => fun
  | [] => { results := [.lit (.bool true)], args := [] }
  | _ => none }
def candleKnownRow : OpenClaim := { program := "ytahphmhiehimiaadoor", sum := "d7d915fc017e668be1d3a8ff730de2d095b72298e9894f0b7cb580f1ed7574c3", func := "decani/decanilaw06.CandleKnown", spec := "candleKnown", unfollowed := true, recurses := true, named := ["decani/candle.nothing"], plainKeys := false, apart := false, laid := [("decani/candle.nothing", laid_decani_candle_nothing)] }
def CandleKnownSaid : Prop := candleKnownRow.holds Tryd.pinned (OpenSpec.ofChange candleKnownSpec)

/-- ITS FALSE NEIGHBOUR: 'it returns false'. Refute it at one input. -/
def candleKnownWrong : ChangeSpec := { name := "candleKnown", fn := fun _ => fun
  | [] => { results := [.lit (.bool false)], args := [] }
  | _ => none }
def CandleKnownWrongFalsely : Prop := candleKnownRow.holds Tryd.pinned (OpenSpec.ofChange candleKnownWrong)

/- THE SECOND FORM. 'bulk': how many values and letters a reading holds, each counted each time it is reached (what is shared counts as often as it is met; a slice's spare places count too). A statement '..UptoSaid' is the law's where the arguments, and the package variables that the reading takes, are together of bulk at most 1048576: NARROWER than '..Said'. Prove '..Said' where nothing that the law and all that it calls make is longer than what came in: it says more and counts as full. Else prove '..UptoSaid'. A law counts once. -/
mutual
def uptoBulk {H : Type} : DataW H → Nat
  | .lit (.string bytes) => bytes.length + 1
  | .lit _ => 1
  | .nil => 1
  | .ptr d => uptoBulk d + 1
  | .slice elems spare => uptoBulkAll elems + uptoBulkAll spare + 1
  | .agg parts => uptoBulkAll parts + 1
  | .iface _ d => uptoBulk d + 1
  | .map entries => uptoBulkEntries entries + 1
  | .held _ => 1
def uptoBulkAll {H : Type} : List (DataW H) → Nat
  | [] => 0
  | d :: r => uptoBulk d + uptoBulkAll r
def uptoBulkEntries {H : Type} : List (Lit × DataW H) → Nat
  | [] => 0
  | x :: r => uptoBulkEntry x + uptoBulkEntries r
def uptoBulkEntry {H : Type} : Lit × DataW H → Nat
  | (.string bytes, d) => bytes.length + uptoBulk d + 1
  | (_, d) => uptoBulk d + 1
 end
def uptoSmall : (H : Type) → List (DataW H) → Bool := fun _ ds => decide (uptoBulkAll ds ≤ 1048576)
def OpenSpec.upto (s : _root_.Go.ChangeSpec) : _root_.Go.OpenSpec := { _root_.Go.OpenSpec.ofChange s with cond := some uptoSmall }

/-- 'decanilaw06.CandleKnown', WHERE WHAT IT READS IS OF BULK AT MOST 1048576: true; the input reads as it did. -/
def candleKnownUptoRow : OpenClaim := { program := "ytahphmhiehimiaadoor", sum := "d7d915fc017e668be1d3a8ff730de2d095b72298e9894f0b7cb580f1ed7574c3", func := "decani/decanilaw06.CandleKnown", spec := "candleKnown", unfollowed := true, recurses := true, named := ["decani/candle.nothing"], plainKeys := false, apart := false, laid := [("decani/candle.nothing", laid_decani_candle_nothing)], narrowed := true }
def CandleKnownUptoSaid : Prop := candleKnownUptoRow.holds Tryd.pinned (OpenSpec.upto candleKnownSpec)

end Rows
end Go.Proofs.YtahphmhiehimiaaDoor
