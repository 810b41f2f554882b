/-
  NARROWER THAN 'FOR EVERY INPUT', by the rows' own cells (each row's printed sentence says how): OfficeKnown: laid · VoiceKnown: laid.
  DERIVED. THE GIVEN ROWS OF THIS SEAT. 2 by the template 'for every input the law returns true; each argument reads behind the call as it read before'; 0 by the template 'total and deterministic' (their statements: YtkkjbmecomoglaaDoorTotals.lean).
  GIVEN WITH THE SEED: the statements are not yours to turn. If you find one false, say at which input.
  Laid BY PROGRAM, IN A SANDBOX (cutbox-rows.mjs): the forced cells as the released guide's own fill.sh prints them over the translation da3b83397c548c76… (all of the seat's roots in one cut). By AI agents, Wed Nov 11 2026. No macro, syntax, notation, axiom, sorry.
-/
import Derived.Test.YtkkjbmecomoglaaDoorChecked
import GoSem.Claim
import GoSem.ClaimJoined
import GoSem.ClaimMapViews
import Derived.JoinedTies
import Derived.KernelRfl
namespace Go.Proofs.YtkkjbmecomoglaaDoor
/- THE CELL 'sum', in the pinned program and in every row, IS THE sha256 OF THE DUMP (.gsa) THAT YtkkjbmecomoglaaDoorProg.lean LOADS. Nothing in Lean hashes anything: it is a label: what it is worth is what the hold of that sum in a sandbox is worth. -/
noncomputable def Tryd.pinned : Pinned := { name := "ytkkjbmecomoglaadoor", sum := "da3b83397c548c76bced5b9a57fbd483f76f678bcf37bbe55fef2380059f8d10", checked := Tryd.checked }
namespace Rows
def none {H : Type} : Left H := { results := [], args := [] }

/- WHAT THE LISTED PACKAGE-LEVEL VARIABLES READ AS WHEN THE CALL BEGINS. Each datum BY PROGRAM (the guide's laid-datum.mjs) off the statement by which the dump's own 'gosem.cut.vars' lays the variable. In a bare row this is a premise. The card (YtkkjbmecomoglaaDoorCards.lean) ties it to the program's text. -/
def laid_decani_office_noSeason {H : Type} : DataW H := .agg [.lit (.int .i64 (-1)), .lit (.int .i64 (-1)), .lit (.int .i64 (-1)), .lit (.int .i64 (-1))]
def laid_decani_voice_nothing {H : Type} : DataW H := .agg [.lit (.int .i64 (-1)), .lit (.int .i64 (-1)), .lit (.int .i64 (-1)), .lit (.int .i64 (-1)), .lit (.int .i64 (-1))]
def laid_decani_voice_bounds {H : Type} : DataW H := .agg [.agg [.lit (.int .i64 40), .lit (.int .i64 2)], .agg [.lit (.int .i64 40), .lit (.int .i64 2)], .agg [.lit (.int .i64 2), .lit (.int .i64 1)], .agg [.lit (.int .i64 6), .lit (.int .i64 2)], .agg [.lit (.int .i64 9), .lit (.int .i64 3)]]

/-- 'decanilaw01.OfficeKnown': WHATEVER THE INPUT: true; the input reads as it did. -/
def officeKnownSpec : ChangeSpec := { name := "officeKnown", fn := fun _ => fun
  | [] => { results := [.lit (.bool true)], args := [] }
  | _ => none }
def officeKnownRow : OpenClaim := { program := "ytkkjbmecomoglaadoor", sum := "da3b83397c548c76bced5b9a57fbd483f76f678bcf37bbe55fef2380059f8d10", func := "decani/decanilaw01.OfficeKnown", spec := "officeKnown", unfollowed := true, recurses := true, named := ["decani/office.noSeason"], plainKeys := false, apart := false, laid := [("decani/office.noSeason", laid_decani_office_noSeason)] }
def OfficeKnownSaid : Prop := officeKnownRow.holds Tryd.pinned (OpenSpec.ofChange officeKnownSpec)

/-- ITS FALSE NEIGHBOUR: 'it returns false'. Refute it at one input. -/
def officeKnownWrong : ChangeSpec := { name := "officeKnown", fn := fun _ => fun
  | [] => { results := [.lit (.bool false)], args := [] }
  | _ => none }
def OfficeKnownWrongFalsely : Prop := officeKnownRow.holds Tryd.pinned (OpenSpec.ofChange officeKnownWrong)

/-- 'decanilaw02.VoiceKnown': WHATEVER THE INPUT: true; the input reads as it did. -/
def voiceKnownSpec : ChangeSpec := { name := "voiceKnown", fn := fun _ => fun
  | [] => { results := [.lit (.bool true)], args := [] }
  | _ => none }
def voiceKnownRow : OpenClaim := { program := "ytkkjbmecomoglaadoor", sum := "da3b83397c548c76bced5b9a57fbd483f76f678bcf37bbe55fef2380059f8d10", func := "decani/decanilaw02.VoiceKnown", spec := "voiceKnown", unfollowed := true, recurses := true, named := ["decani/voice.bounds", "decani/voice.nothing"], plainKeys := false, apart := false, laid := [("decani/voice.nothing", laid_decani_voice_nothing), ("decani/voice.bounds", laid_decani_voice_bounds)] }
def VoiceKnownSaid : Prop := voiceKnownRow.holds Tryd.pinned (OpenSpec.ofChange voiceKnownSpec)

/-- ITS FALSE NEIGHBOUR: 'it returns false'. Refute it at one input. -/
def voiceKnownWrong : ChangeSpec := { name := "voiceKnown", fn := fun _ => fun
  | [] => { results := [.lit (.bool false)], args := [] }
  | _ => none }
def VoiceKnownWrongFalsely : Prop := voiceKnownRow.holds Tryd.pinned (OpenSpec.ofChange voiceKnownWrong)

/- THE SECOND FORM. 'bulk': how many values and letters a reading holds, each counted each time it is reached (what is shared counts as often as it is met; a slice's spare places count too). A statement '..UptoSaid' is the law's where the arguments, and the package variables that the reading takes, are together of bulk at most 1048576: NARROWER than '..Said'. Prove '..Said' where nothing that the law and all that it calls make is longer than what came in: it says more and counts as full. Else prove '..UptoSaid'. A law counts once. -/
mutual
def uptoBulk {H : Type} : DataW H → Nat
  | .lit (.string bytes) => bytes.length + 1
  | .lit _ => 1
  | .nil => 1
  | .ptr d => uptoBulk d + 1
  | .slice elems spare => uptoBulkAll elems + uptoBulkAll spare + 1
  | .agg parts => uptoBulkAll parts + 1
  | .iface _ d => uptoBulk d + 1
  | .map entries => uptoBulkEntries entries + 1
  | .held _ => 1
def uptoBulkAll {H : Type} : List (DataW H) → Nat
  | [] => 0
  | d :: r => uptoBulk d + uptoBulkAll r
def uptoBulkEntries {H : Type} : List (Lit × DataW H) → Nat
  | [] => 0
  | x :: r => uptoBulkEntry x + uptoBulkEntries r
def uptoBulkEntry {H : Type} : Lit × DataW H → Nat
  | (.string bytes, d) => bytes.length + uptoBulk d + 1
  | (_, d) => uptoBulk d + 1
 end
def uptoSmall : (H : Type) → List (DataW H) → Bool := fun _ ds => decide (uptoBulkAll ds ≤ 1048576)
def OpenSpec.upto (s : _root_.Go.ChangeSpec) : _root_.Go.OpenSpec := { _root_.Go.OpenSpec.ofChange s with cond := some uptoSmall }

/-- 'decanilaw01.OfficeKnown', WHERE WHAT IT READS IS OF BULK AT MOST 1048576: true; the input reads as it did. -/
def officeKnownUptoRow : OpenClaim := { program := "ytkkjbmecomoglaadoor", sum := "da3b83397c548c76bced5b9a57fbd483f76f678bcf37bbe55fef2380059f8d10", func := "decani/decanilaw01.OfficeKnown", spec := "officeKnown", unfollowed := true, recurses := true, named := ["decani/office.noSeason"], plainKeys := false, apart := false, laid := [("decani/office.noSeason", laid_decani_office_noSeason)], narrowed := true }
def OfficeKnownUptoSaid : Prop := officeKnownUptoRow.holds Tryd.pinned (OpenSpec.upto officeKnownSpec)

/-- 'decanilaw02.VoiceKnown', WHERE WHAT IT READS IS OF BULK AT MOST 1048576: true; the input reads as it did. -/
def voiceKnownUptoRow : OpenClaim := { program := "ytkkjbmecomoglaadoor", sum := "da3b83397c548c76bced5b9a57fbd483f76f678bcf37bbe55fef2380059f8d10", func := "decani/decanilaw02.VoiceKnown", spec := "voiceKnown", unfollowed := true, recurses := true, named := ["decani/voice.bounds", "decani/voice.nothing"], plainKeys := false, apart := false, laid := [("decani/voice.nothing", laid_decani_voice_nothing), ("decani/voice.bounds", laid_decani_voice_bounds)], narrowed := true }
def VoiceKnownUptoSaid : Prop := voiceKnownUptoRow.holds Tryd.pinned (OpenSpec.upto voiceKnownSpec)

end Rows
end Go.Proofs.YtkkjbmecomoglaaDoor
