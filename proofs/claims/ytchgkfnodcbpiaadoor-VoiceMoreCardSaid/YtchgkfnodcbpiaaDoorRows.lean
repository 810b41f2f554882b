/-
  NARROWER THAN 'FOR EVERY INPUT', by the rows' own cells (each row's printed sentence says how): VoiceMore: laid.
  DERIVED. THE GIVEN ROWS OF THIS SEAT. 1 by the template 'for every input the law returns true; each argument reads behind the call as it read before'; 0 by the template 'total and deterministic' (their statements: YtchgkfnodcbpiaaDoorTotals.lean).
  GIVEN WITH THE SEED: the statements are not yours to turn. If you find one false, say at which input.
  Laid BY PROGRAM, IN A SANDBOX (cutbox-rows.mjs): the forced cells as the released guide's own fill.sh prints them over the translation 802709ac8e5ce5bd… (all of the seat's roots in one cut). By AI agents, Wed Nov 11 2026. No macro, syntax, notation, axiom, sorry.
-/
import Derived.Test.YtchgkfnodcbpiaaDoorChecked
import GoSem.Claim
import GoSem.ClaimJoined
import GoSem.ClaimMapViews
import Derived.JoinedTies
import Derived.KernelRfl
namespace Go.Proofs.YtchgkfnodcbpiaaDoor
/- THE CELL 'sum', in the pinned program and in every row, IS THE sha256 OF THE DUMP (.gsa) THAT YtchgkfnodcbpiaaDoorProg.lean LOADS. Nothing in Lean hashes anything: it is a label: what it is worth is what the hold of that sum in a sandbox is worth. -/
noncomputable def Tryd.pinned : Pinned := { name := "ytchgkfnodcbpiaadoor", sum := "802709ac8e5ce5bd6eb46821d6b4600385ccaa65336b2b28cd6e3640b6e2cbe4", checked := Tryd.checked }
namespace Rows
def none {H : Type} : Left H := { results := [], args := [] }

/- WHAT THE LISTED PACKAGE-LEVEL VARIABLES READ AS WHEN THE CALL BEGINS. Each datum BY PROGRAM (the guide's laid-datum.mjs) off the statement by which the dump's own 'gosem.cut.vars' lays the variable. In a bare row this is a premise. The card (YtchgkfnodcbpiaaDoorCards.lean) ties it to the program's text. -/
def laid_decani_voice_nothing {H : Type} : DataW H := .agg [.lit (.int .i64 (-1)), .lit (.int .i64 (-1)), .lit (.int .i64 (-1)), .lit (.int .i64 (-1)), .lit (.int .i64 (-1))]
def laid_decani_voice_bounds {H : Type} : DataW H := .agg [.agg [.lit (.int .i64 40), .lit (.int .i64 2)], .agg [.lit (.int .i64 40), .lit (.int .i64 2)], .agg [.lit (.int .i64 2), .lit (.int .i64 1)], .agg [.lit (.int .i64 6), .lit (.int .i64 2)], .agg [.lit (.int .i64 9), .lit (.int .i64 3)]]

/-- 'decanilaw02.VoiceMore': WHATEVER THE INPUT: true; the input reads as it did. -/
def voiceMoreSpec : ChangeSpec := { name := "voiceMore", fn := fun _ => fun
  | [d1, d2, d3] => { results := [.lit (.bool true)], args := [d1, d2, d3] }
  | _ => none }
def voiceMoreRow : OpenClaim := { program := "ytchgkfnodcbpiaadoor", sum := "802709ac8e5ce5bd6eb46821d6b4600385ccaa65336b2b28cd6e3640b6e2cbe4", func := "decani/decanilaw02.VoiceMore", spec := "voiceMore", unfollowed := true, recurses := true, named := ["decani/voice.bounds", "decani/voice.nothing"], plainKeys := false, apart := false, laid := [("decani/voice.nothing", laid_decani_voice_nothing), ("decani/voice.bounds", laid_decani_voice_bounds)] }
def VoiceMoreSaid : Prop := voiceMoreRow.holds Tryd.pinned (OpenSpec.ofChange voiceMoreSpec)

/-- ITS FALSE NEIGHBOUR: 'it returns false'. Refute it at one input. -/
def voiceMoreWrong : ChangeSpec := { name := "voiceMore", fn := fun _ => fun
  | [d1, d2, d3] => { results := [.lit (.bool false)], args := [d1, d2, d3] }
  | _ => none }
def VoiceMoreWrongFalsely : Prop := voiceMoreRow.holds Tryd.pinned (OpenSpec.ofChange voiceMoreWrong)

/- THE SECOND FORM. 'bulk': how many values and letters a reading holds, each counted each time it is reached (what is shared counts as often as it is met; a slice's spare places count too). A statement '..UptoSaid' is the law's where the arguments, and the package variables that the reading takes, are together of bulk at most 1048576: NARROWER than '..Said'. Prove '..Said' where nothing that the law and all that it calls make is longer than what came in: it says more and counts as full. Else prove '..UptoSaid'. A law counts once. -/
mutual
def uptoBulk {H : Type} : DataW H → Nat
  | .lit (.string bytes) => bytes.length + 1
  | .lit _ => 1
  | .nil => 1
  | .ptr d => uptoBulk d + 1
  | .slice elems spare => uptoBulkAll elems + uptoBulkAll spare + 1
  | .agg parts => uptoBulkAll parts + 1
  | .iface _ d => uptoBulk d + 1
  | .map entries => uptoBulkEntries entries + 1
  | .held _ => 1
def uptoBulkAll {H : Type} : List (DataW H) → Nat
  | [] => 0
  | d :: r => uptoBulk d + uptoBulkAll r
def uptoBulkEntries {H : Type} : List (Lit × DataW H) → Nat
  | [] => 0
  | x :: r => uptoBulkEntry x + uptoBulkEntries r
def uptoBulkEntry {H : Type} : Lit × DataW H → Nat
  | (.string bytes, d) => bytes.length + uptoBulk d + 1
  | (_, d) => uptoBulk d + 1
 end
def uptoSmall : (H : Type) → List (DataW H) → Bool := fun _ ds => decide (uptoBulkAll ds ≤ 1048576)
def OpenSpec.upto (s : _root_.Go.ChangeSpec) : _root_.Go.OpenSpec := { _root_.Go.OpenSpec.ofChange s with cond := some uptoSmall }

/-- 'decanilaw02.VoiceMore', WHERE WHAT IT READS IS OF BULK AT MOST 1048576: true; the input reads as it did. -/
def voiceMoreUptoRow : OpenClaim := { program := "ytchgkfnodcbpiaadoor", sum := "802709ac8e5ce5bd6eb46821d6b4600385ccaa65336b2b28cd6e3640b6e2cbe4", func := "decani/decanilaw02.VoiceMore", spec := "voiceMore", unfollowed := true, recurses := true, named := ["decani/voice.bounds", "decani/voice.nothing"], plainKeys := false, apart := false, laid := [("decani/voice.nothing", laid_decani_voice_nothing), ("decani/voice.bounds", laid_decani_voice_bounds)], narrowed := true }
def VoiceMoreUptoSaid : Prop := voiceMoreUptoRow.holds Tryd.pinned (OpenSpec.upto voiceMoreSpec)

end Rows
end Go.Proofs.YtchgkfnodcbpiaaDoor
