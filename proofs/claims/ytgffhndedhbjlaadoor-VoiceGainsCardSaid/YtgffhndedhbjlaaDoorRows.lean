/-
  NARROWER THAN 'FOR EVERY INPUT', by the rows' own cells (each row's printed sentence says how): VoiceTops: laid · VoiceHeir: laid · VoiceGains: laid.
  DERIVED. THE GIVEN ROWS OF THIS SEAT. 3 by the template 'for every input the law returns true; each argument reads behind the call as it read before'; 0 by the template 'total and deterministic' (their statements: YtgffhndedhbjlaaDoorTotals.lean).
  GIVEN WITH THE SEED: the statements are not yours to turn. If you find one false, say at which input.
  Laid BY PROGRAM, IN A SANDBOX (cutbox-rows.mjs): the forced cells as the released guide's own fill.sh prints them over the translation b858030b2e826f61… (all of the seat's roots in one cut). By AI agents, Wed Nov 11 2026. No macro, syntax, notation, axiom, sorry.
-/
import Derived.Test.YtgffhndedhbjlaaDoorChecked
import GoSem.Claim
import GoSem.ClaimJoined
import GoSem.ClaimMapViews
import Derived.JoinedTies
import Derived.KernelRfl
namespace Go.Proofs.YtgffhndedhbjlaaDoor
/- THE CELL 'sum', in the pinned program and in every row, IS THE sha256 OF THE DUMP (.gsa) THAT YtgffhndedhbjlaaDoorProg.lean LOADS. Nothing in Lean hashes anything: it is a label: what it is worth is what the hold of that sum in a sandbox is worth. -/
noncomputable def Tryd.pinned : Pinned := { name := "ytgffhndedhbjlaadoor", sum := "b858030b2e826f61d4f69631d9a8431f6604f2e99ff52abc9d3205d91df0090b", checked := Tryd.checked }
namespace Rows
def none {H : Type} : Left H := { results := [], args := [] }

/- WHAT THE LISTED PACKAGE-LEVEL VARIABLES READ AS WHEN THE CALL BEGINS. Each datum BY PROGRAM (the guide's laid-datum.mjs) off the statement by which the dump's own 'gosem.cut.vars' lays the variable. In a bare row this is a premise. The card (YtgffhndedhbjlaaDoorCards.lean) ties it to the program's text. -/
def laid_decani_voice_nothing {H : Type} : DataW H := .agg [.lit (.int .i64 (-1)), .lit (.int .i64 (-1)), .lit (.int .i64 (-1)), .lit (.int .i64 (-1)), .lit (.int .i64 (-1))]
def laid_decani_voice_bounds {H : Type} : DataW H := .agg [.agg [.lit (.int .i64 40), .lit (.int .i64 2)], .agg [.lit (.int .i64 40), .lit (.int .i64 2)], .agg [.lit (.int .i64 2), .lit (.int .i64 1)], .agg [.lit (.int .i64 6), .lit (.int .i64 2)], .agg [.lit (.int .i64 9), .lit (.int .i64 3)]]

/-- 'decanilaw02.VoiceTops': WHATEVER THE INPUT: true; the input reads as it did. -/
def voiceTopsSpec : ChangeSpec := { name := "voiceTops", fn := fun _ => fun
  | [d1, d2] => { results := [.lit (.bool true)], args := [d1, d2] }
  | _ => none }
def voiceTopsRow : OpenClaim := { program := "ytgffhndedhbjlaadoor", sum := "b858030b2e826f61d4f69631d9a8431f6604f2e99ff52abc9d3205d91df0090b", func := "decani/decanilaw02.VoiceTops", spec := "voiceTops", unfollowed := true, recurses := true, named := ["decani/voice.bounds", "decani/voice.nothing"], plainKeys := false, apart := false, laid := [("decani/voice.nothing", laid_decani_voice_nothing), ("decani/voice.bounds", laid_decani_voice_bounds)] }
def VoiceTopsSaid : Prop := voiceTopsRow.holds Tryd.pinned (OpenSpec.ofChange voiceTopsSpec)

/-- ITS FALSE NEIGHBOUR: 'it returns false'. Refute it at one input. -/
def voiceTopsWrong : ChangeSpec := { name := "voiceTops", fn := fun _ => fun
  | [d1, d2] => { results := [.lit (.bool false)], args := [d1, d2] }
  | _ => none }
def VoiceTopsWrongFalsely : Prop := voiceTopsRow.holds Tryd.pinned (OpenSpec.ofChange voiceTopsWrong)

/-- 'decanilaw02.VoiceHeir': WHATEVER THE INPUT: true; the input reads as it did. -/
def voiceHeirSpec : ChangeSpec := { name := "voiceHeir", fn := fun _ => fun
  | [d1, d2] => { results := [.lit (.bool true)], args := [d1, d2] }
  | _ => none }
def voiceHeirRow : OpenClaim := { program := "ytgffhndedhbjlaadoor", sum := "b858030b2e826f61d4f69631d9a8431f6604f2e99ff52abc9d3205d91df0090b", func := "decani/decanilaw02.VoiceHeir", spec := "voiceHeir", unfollowed := true, recurses := true, named := ["decani/voice.bounds", "decani/voice.nothing"], plainKeys := false, apart := false, laid := [("decani/voice.nothing", laid_decani_voice_nothing), ("decani/voice.bounds", laid_decani_voice_bounds)] }
def VoiceHeirSaid : Prop := voiceHeirRow.holds Tryd.pinned (OpenSpec.ofChange voiceHeirSpec)

/-- ITS FALSE NEIGHBOUR: 'it returns false'. Refute it at one input. -/
def voiceHeirWrong : ChangeSpec := { name := "voiceHeir", fn := fun _ => fun
  | [d1, d2] => { results := [.lit (.bool false)], args := [d1, d2] }
  | _ => none }
def VoiceHeirWrongFalsely : Prop := voiceHeirRow.holds Tryd.pinned (OpenSpec.ofChange voiceHeirWrong)

/-- 'decanilaw02.VoiceGains': WHATEVER THE INPUT: true; the input reads as it did. -/
def voiceGainsSpec : ChangeSpec := { name := "voiceGains", fn := fun _ => fun
  | [d1, d2] => { results := [.lit (.bool true)], args := [d1, d2] }
  | _ => none }
def voiceGainsRow : OpenClaim := { program := "ytgffhndedhbjlaadoor", sum := "b858030b2e826f61d4f69631d9a8431f6604f2e99ff52abc9d3205d91df0090b", func := "decani/decanilaw02.VoiceGains", spec := "voiceGains", unfollowed := true, recurses := true, named := ["decani/voice.bounds", "decani/voice.nothing"], plainKeys := false, apart := false, laid := [("decani/voice.nothing", laid_decani_voice_nothing), ("decani/voice.bounds", laid_decani_voice_bounds)] }
def VoiceGainsSaid : Prop := voiceGainsRow.holds Tryd.pinned (OpenSpec.ofChange voiceGainsSpec)

/-- ITS FALSE NEIGHBOUR: 'it returns false'. Refute it at one input. -/
def voiceGainsWrong : ChangeSpec := { name := "voiceGains", fn := fun _ => fun
  | [d1, d2] => { results := [.lit (.bool false)], args := [d1, d2] }
  | _ => none }
def VoiceGainsWrongFalsely : Prop := voiceGainsRow.holds Tryd.pinned (OpenSpec.ofChange voiceGainsWrong)

/- THE SECOND FORM. 'bulk': how many values and letters a reading holds, each counted each time it is reached (what is shared counts as often as it is met; a slice's spare places count too). A statement '..UptoSaid' is the law's where the arguments, and the package variables that the reading takes, are together of bulk at most 1048576: NARROWER than '..Said'. Prove '..Said' where nothing that the law and all that it calls make is longer than what came in: it says more and counts as full. Else prove '..UptoSaid'. A law counts once. -/
mutual
def uptoBulk {H : Type} : DataW H → Nat
  | .lit (.string bytes) => bytes.length + 1
  | .lit _ => 1
  | .nil => 1
  | .ptr d => uptoBulk d + 1
  | .slice elems spare => uptoBulkAll elems + uptoBulkAll spare + 1
  | .agg parts => uptoBulkAll parts + 1
  | .iface _ d => uptoBulk d + 1
  | .map entries => uptoBulkEntries entries + 1
  | .held _ => 1
def uptoBulkAll {H : Type} : List (DataW H) → Nat
  | [] => 0
  | d :: r => uptoBulk d + uptoBulkAll r
def uptoBulkEntries {H : Type} : List (Lit × DataW H) → Nat
  | [] => 0
  | x :: r => uptoBulkEntry x + uptoBulkEntries r
def uptoBulkEntry {H : Type} : Lit × DataW H → Nat
  | (.string bytes, d) => bytes.length + uptoBulk d + 1
  | (_, d) => uptoBulk d + 1
 end
def uptoSmall : (H : Type) → List (DataW H) → Bool := fun _ ds => decide (uptoBulkAll ds ≤ 1048576)
def OpenSpec.upto (s : _root_.Go.ChangeSpec) : _root_.Go.OpenSpec := { _root_.Go.OpenSpec.ofChange s with cond := some uptoSmall }

/-- 'decanilaw02.VoiceTops', WHERE WHAT IT READS IS OF BULK AT MOST 1048576: true; the input reads as it did. -/
def voiceTopsUptoRow : OpenClaim := { program := "ytgffhndedhbjlaadoor", sum := "b858030b2e826f61d4f69631d9a8431f6604f2e99ff52abc9d3205d91df0090b", func := "decani/decanilaw02.VoiceTops", spec := "voiceTops", unfollowed := true, recurses := true, named := ["decani/voice.bounds", "decani/voice.nothing"], plainKeys := false, apart := false, laid := [("decani/voice.nothing", laid_decani_voice_nothing), ("decani/voice.bounds", laid_decani_voice_bounds)], narrowed := true }
def VoiceTopsUptoSaid : Prop := voiceTopsUptoRow.holds Tryd.pinned (OpenSpec.upto voiceTopsSpec)

/-- 'decanilaw02.VoiceHeir', WHERE WHAT IT READS IS OF BULK AT MOST 1048576: true; the input reads as it did. -/
def voiceHeirUptoRow : OpenClaim := { program := "ytgffhndedhbjlaadoor", sum := "b858030b2e826f61d4f69631d9a8431f6604f2e99ff52abc9d3205d91df0090b", func := "decani/decanilaw02.VoiceHeir", spec := "voiceHeir", unfollowed := true, recurses := true, named := ["decani/voice.bounds", "decani/voice.nothing"], plainKeys := false, apart := false, laid := [("decani/voice.nothing", laid_decani_voice_nothing), ("decani/voice.bounds", laid_decani_voice_bounds)], narrowed := true }
def VoiceHeirUptoSaid : Prop := voiceHeirUptoRow.holds Tryd.pinned (OpenSpec.upto voiceHeirSpec)

/-- 'decanilaw02.VoiceGains', WHERE WHAT IT READS IS OF BULK AT MOST 1048576: true; the input reads as it did. -/
def voiceGainsUptoRow : OpenClaim := { program := "ytgffhndedhbjlaadoor", sum := "b858030b2e826f61d4f69631d9a8431f6604f2e99ff52abc9d3205d91df0090b", func := "decani/decanilaw02.VoiceGains", spec := "voiceGains", unfollowed := true, recurses := true, named := ["decani/voice.bounds", "decani/voice.nothing"], plainKeys := false, apart := false, laid := [("decani/voice.nothing", laid_decani_voice_nothing), ("decani/voice.bounds", laid_decani_voice_bounds)], narrowed := true }
def VoiceGainsUptoSaid : Prop := voiceGainsUptoRow.holds Tryd.pinned (OpenSpec.upto voiceGainsSpec)

end Rows
end Go.Proofs.YtgffhndedhbjlaaDoor
