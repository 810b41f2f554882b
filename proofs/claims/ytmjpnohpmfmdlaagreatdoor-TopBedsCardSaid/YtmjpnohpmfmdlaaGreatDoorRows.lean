/-
  NARROWER THAN 'FOR EVERY INPUT', by the rows' own cells (each row's printed sentence says how): TopPile: laid · TopMeet: laid · TopBeds: laid.
  DERIVED. THE GIVEN ROWS OF THIS SEAT. 3 by the template 'for every input the law returns true; each argument reads behind the call as it read before'; 0 by the template 'total and deterministic' (their statements: YtmjpnohpmfmdlaaGreatDoorTotals.lean).
  GIVEN WITH THE SEED: the statements are not yours to turn. If you find one false, say at which input.
  Laid BY PROGRAM, IN A SANDBOX (cutbox-rows.mjs): the forced cells as the released guide's own fill.sh prints them over the translation b323837626b690dd… (all of the seat's roots in one cut). By AI agents, Wed Nov 11 2026. No macro, syntax, notation, axiom, sorry.
-/
import Derived.Test.YtmjpnohpmfmdlaaGreatDoorChecked
import GoSem.Claim
import GoSem.ClaimJoined
import GoSem.ClaimMapViews
import Derived.JoinedTies
import Derived.KernelRfl
namespace Go.Proofs.YtmjpnohpmfmdlaaGreatDoor
/- THE CELL 'sum', in the pinned program and in every row, IS THE sha256 OF THE DUMP (.gsa) THAT YtmjpnohpmfmdlaaGreatDoorProg.lean LOADS. Nothing in Lean hashes anything: it is a label: what it is worth is what the hold of that sum in a sandbox is worth. -/
noncomputable def Tryz.pinned : Pinned := { name := "ytmjpnohpmfmdlaagreatdoor", sum := "b323837626b690ddf9f40e134750bd96657d86550c2df50e662f777ef5ae2a03", checked := Tryz.checked }
namespace Rows
def none {H : Type} : Left H := { results := [], args := [] }

/- WHAT THE LISTED PACKAGE-LEVEL VARIABLES READ AS WHEN THE CALL BEGINS. Each datum BY PROGRAM (the guide's laid-datum.mjs) off the statement by which the dump's own 'gosem.cut.vars' lays the variable. In a bare row this is a premise. The card (YtmjpnohpmfmdlaaGreatDoorCards.lean) ties it to the program's text. -/
def laid_decani_cold_nowhere {H : Type} : DataW H := .agg [.lit (.int .i64 (-1)), .lit (.int .i64 (-1))]
def laid_decani_cold_nobody {H : Type} : DataW H := .agg [.lit (.int .i64 6), .lit (.int .i64 6), .lit (.int .i64 6), .lit (.int .i64 6), .lit (.int .i64 6)]
def laid_decani_office_noSeason {H : Type} : DataW H := .agg [.lit (.int .i64 (-1)), .lit (.int .i64 (-1)), .lit (.int .i64 (-1)), .lit (.int .i64 (-1))]
def laid_decani_part_silence {H : Type} : DataW H := .agg [.lit (.int .i64 (-1)), .lit (.int .i64 (-1)), .lit (.int .i64 (-1))]
def laid_decani_candle_nothing {H : Type} : DataW H := .agg [.lit (.int .i64 (-301)), .lit (.int .i64 (-301))]
def laid_decani_strain_nothing {H : Type} : DataW H := .agg [.lit (.int .i64 (-1)), .lit (.int .i64 (-1)), .lit (.int .i64 (-1))]

/-- 'decanitop.TopPile': WHATEVER THE INPUT: true; the input reads as it did. -/
def topPileSpec : ChangeSpec := { name := "topPile", fn := fun _ => fun
  | [d] => { results := [.lit (.bool true)], args := [d] }
  | _ => none }
def topPileRow : OpenClaim := { program := "ytmjpnohpmfmdlaagreatdoor", sum := "b323837626b690ddf9f40e134750bd96657d86550c2df50e662f777ef5ae2a03", func := "decani/decanitop.TopPile", spec := "topPile", unfollowed := true, recurses := true, named := ["decani/office.noSeason", "decani/cold.nowhere", "decani/cold.nobody", "decani/part.silence"], plainKeys := false, apart := false, laid := [("decani/cold.nowhere", laid_decani_cold_nowhere), ("decani/cold.nobody", laid_decani_cold_nobody), ("decani/office.noSeason", laid_decani_office_noSeason), ("decani/part.silence", laid_decani_part_silence)] }
def TopPileSaid : Prop := topPileRow.holds Tryz.pinned (OpenSpec.ofChange topPileSpec)

/-- ITS FALSE NEIGHBOUR: 'it returns false'. Refute it at one input. -/
def topPileWrong : ChangeSpec := { name := "topPile", fn := fun _ => fun
  | [d] => { results := [.lit (.bool false)], args := [d] }
  | _ => none }
def TopPileWrongFalsely : Prop := topPileRow.holds Tryz.pinned (OpenSpec.ofChange topPileWrong)

/-- 'decanitop.TopMeet': WHATEVER THE INPUT: true; the input reads as it did. -/
def topMeetSpec : ChangeSpec := { name := "topMeet", fn := fun _ => fun
  | [d] => { results := [.lit (.bool true)], args := [d] }
  | _ => none }
def topMeetRow : OpenClaim := { program := "ytmjpnohpmfmdlaagreatdoor", sum := "b323837626b690ddf9f40e134750bd96657d86550c2df50e662f777ef5ae2a03", func := "decani/decanitop.TopMeet", spec := "topMeet", unfollowed := true, recurses := true, named := ["decani/office.noSeason", "decani/part.silence", "decani/cold.nowhere", "decani/cold.nobody"], plainKeys := false, apart := false, laid := [("decani/cold.nowhere", laid_decani_cold_nowhere), ("decani/cold.nobody", laid_decani_cold_nobody), ("decani/office.noSeason", laid_decani_office_noSeason), ("decani/part.silence", laid_decani_part_silence)] }
def TopMeetSaid : Prop := topMeetRow.holds Tryz.pinned (OpenSpec.ofChange topMeetSpec)

/-- ITS FALSE NEIGHBOUR: 'it returns false'. Refute it at one input. -/
def topMeetWrong : ChangeSpec := { name := "topMeet", fn := fun _ => fun
  | [d] => { results := [.lit (.bool false)], args := [d] }
  | _ => none }
def TopMeetWrongFalsely : Prop := topMeetRow.holds Tryz.pinned (OpenSpec.ofChange topMeetWrong)

/-- 'decanitop.TopBeds': WHATEVER THE INPUT: true; the input reads as it did. -/
def topBedsSpec : ChangeSpec := { name := "topBeds", fn := fun _ => fun
  | [d] => { results := [.lit (.bool true)], args := [d] }
  | _ => none }
def topBedsRow : OpenClaim := { program := "ytmjpnohpmfmdlaagreatdoor", sum := "b323837626b690ddf9f40e134750bd96657d86550c2df50e662f777ef5ae2a03", func := "decani/decanitop.TopBeds", spec := "topBeds", unfollowed := true, recurses := true, named := ["decani/cold.nowhere", "decani/cold.nobody", "decani/candle.nothing", "decani/strain.nothing"], plainKeys := false, apart := false, laid := [("decani/candle.nothing", laid_decani_candle_nothing), ("decani/cold.nowhere", laid_decani_cold_nowhere), ("decani/cold.nobody", laid_decani_cold_nobody), ("decani/strain.nothing", laid_decani_strain_nothing)] }
def TopBedsSaid : Prop := topBedsRow.holds Tryz.pinned (OpenSpec.ofChange topBedsSpec)

/-- ITS FALSE NEIGHBOUR: 'it returns false'. Refute it at one input. -/
def topBedsWrong : ChangeSpec := { name := "topBeds", fn := fun _ => fun
  | [d] => { results := [.lit (.bool false)], args := [d] }
  | _ => none }
def TopBedsWrongFalsely : Prop := topBedsRow.holds Tryz.pinned (OpenSpec.ofChange topBedsWrong)

/- THE SECOND FORM. 'bulk': how many values and letters a reading holds, each counted each time it is reached (what is shared counts as often as it is met; a slice's spare places count too). A statement '..UptoSaid' is the law's where the arguments, and the package variables that the reading takes, are together of bulk at most 1048576: NARROWER than '..Said'. Prove '..Said' where nothing that the law and all that it calls make is longer than what came in: it says more and counts as full. Else prove '..UptoSaid'. A law counts once. -/
mutual
def uptoBulk {H : Type} : DataW H → Nat
  | .lit (.string bytes) => bytes.length + 1
  | .lit _ => 1
  | .nil => 1
  | .ptr d => uptoBulk d + 1
  | .slice elems spare => uptoBulkAll elems + uptoBulkAll spare + 1
  | .agg parts => uptoBulkAll parts + 1
  | .iface _ d => uptoBulk d + 1
  | .map entries => uptoBulkEntries entries + 1
  | .held _ => 1
def uptoBulkAll {H : Type} : List (DataW H) → Nat
  | [] => 0
  | d :: r => uptoBulk d + uptoBulkAll r
def uptoBulkEntries {H : Type} : List (Lit × DataW H) → Nat
  | [] => 0
  | x :: r => uptoBulkEntry x + uptoBulkEntries r
def uptoBulkEntry {H : Type} : Lit × DataW H → Nat
  | (.string bytes, d) => bytes.length + uptoBulk d + 1
  | (_, d) => uptoBulk d + 1
 end
def uptoSmall : (H : Type) → List (DataW H) → Bool := fun _ ds => decide (uptoBulkAll ds ≤ 1048576)
def OpenSpec.upto (s : _root_.Go.ChangeSpec) : _root_.Go.OpenSpec := { _root_.Go.OpenSpec.ofChange s with cond := some uptoSmall }

/-- 'decanitop.TopPile', WHERE WHAT IT READS IS OF BULK AT MOST 1048576: true; the input reads as it did. -/
def topPileUptoRow : OpenClaim := { program := "ytmjpnohpmfmdlaagreatdoor", sum := "b323837626b690ddf9f40e134750bd96657d86550c2df50e662f777ef5ae2a03", func := "decani/decanitop.TopPile", spec := "topPile", unfollowed := true, recurses := true, named := ["decani/office.noSeason", "decani/cold.nowhere", "decani/cold.nobody", "decani/part.silence"], plainKeys := false, apart := false, laid := [("decani/cold.nowhere", laid_decani_cold_nowhere), ("decani/cold.nobody", laid_decani_cold_nobody), ("decani/office.noSeason", laid_decani_office_noSeason), ("decani/part.silence", laid_decani_part_silence)], narrowed := true }
def TopPileUptoSaid : Prop := topPileUptoRow.holds Tryz.pinned (OpenSpec.upto topPileSpec)

/-- 'decanitop.TopMeet', WHERE WHAT IT READS IS OF BULK AT MOST 1048576: true; the input reads as it did. -/
def topMeetUptoRow : OpenClaim := { program := "ytmjpnohpmfmdlaagreatdoor", sum := "b323837626b690ddf9f40e134750bd96657d86550c2df50e662f777ef5ae2a03", func := "decani/decanitop.TopMeet", spec := "topMeet", unfollowed := true, recurses := true, named := ["decani/office.noSeason", "decani/part.silence", "decani/cold.nowhere", "decani/cold.nobody"], plainKeys := false, apart := false, laid := [("decani/cold.nowhere", laid_decani_cold_nowhere), ("decani/cold.nobody", laid_decani_cold_nobody), ("decani/office.noSeason", laid_decani_office_noSeason), ("decani/part.silence", laid_decani_part_silence)], narrowed := true }
def TopMeetUptoSaid : Prop := topMeetUptoRow.holds Tryz.pinned (OpenSpec.upto topMeetSpec)

/-- 'decanitop.TopBeds', WHERE WHAT IT READS IS OF BULK AT MOST 1048576: true; the input reads as it did. -/
def topBedsUptoRow : OpenClaim := { program := "ytmjpnohpmfmdlaagreatdoor", sum := "b323837626b690ddf9f40e134750bd96657d86550c2df50e662f777ef5ae2a03", func := "decani/decanitop.TopBeds", spec := "topBeds", unfollowed := true, recurses := true, named := ["decani/cold.nowhere", "decani/cold.nobody", "decani/candle.nothing", "decani/strain.nothing"], plainKeys := false, apart := false, laid := [("decani/candle.nothing", laid_decani_candle_nothing), ("decani/cold.nowhere", laid_decani_cold_nowhere), ("decani/cold.nobody", laid_decani_cold_nobody), ("decani/strain.nothing", laid_decani_strain_nothing)], narrowed := true }
def TopBedsUptoSaid : Prop := topBedsUptoRow.holds Tryz.pinned (OpenSpec.upto topBedsSpec)

end Rows
end Go.Proofs.YtmjpnohpmfmdlaaGreatDoor
