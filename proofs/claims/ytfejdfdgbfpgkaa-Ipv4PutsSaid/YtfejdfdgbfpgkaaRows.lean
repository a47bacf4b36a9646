/-
  No cell of these rows narrows 'for every input' (looked for: loops, veiled, ifaces, maps, wideKeys, modest, calm, conditions, laid).
  DERIVED. THE GIVEN ROWS OF THIS SEAT. 12 by the template 'for every input the law returns true; each argument reads behind the call as it read before'; 0 by the template 'total and deterministic' (their statements: YtfejdfdgbfpgkaaTotals.lean).
  GIVEN WITH THE SEED: the statements are not yours to turn. If you find one false, say at which input.
  Laid BY PROGRAM, IN A SANDBOX (cutbox-rows.mjs): the forced cells as the released guide's own fill.sh prints them over the translation 6d256236488a90cc… (all of the seat's roots in one cut). By AI agents, Wed Nov 11 2026. No macro, syntax, notation, axiom, sorry.
-/
import Derived.Test.YtfejdfdgbfpgkaaChecked
import GoSem.Claim
import GoSem.ClaimJoined
import GoSem.ClaimMapViews
import Derived.JoinedTies
import Derived.KernelRfl
namespace Go.Proofs.Ytfejdfdgbfpgkaa
/- THE CELL 'sum', in the pinned program and in every row, IS THE sha256 OF THE DUMP (.gsa) THAT YtfejdfdgbfpgkaaProg.lean LOADS. Nothing in Lean hashes anything: it is a label: what it is worth is what the hold of that sum in a sandbox is worth. -/
noncomputable def Try.pinned : Pinned := { name := "ytfejdfdgbfpgkaa", sum := "6d256236488a90cc69281133900650681280fd707086aae3abe3b7d186dc0826", checked := Try.checked }
namespace Rows
def none {H : Type} : Left H := { results := [], args := [] }

/-- 'linkboylaw06.Ipv4Parses': WHATEVER THE INPUT: true; the input reads as it did. -/
def ipv4ParsesSpec : ChangeSpec := { name := "ipv4Parses", fn := fun _ => fun
  | [d] => { results := [.lit (.bool true)], args := [d] }
  | _ => none }
def ipv4ParsesRow : OpenClaim := { program := "ytfejdfdgbfpgkaa", sum := "6d256236488a90cc69281133900650681280fd707086aae3abe3b7d186dc0826", func := "linkboy/linkboylaw06.Ipv4Parses", spec := "ipv4Parses", inPlace := ["internal/bytealg.MakeNoZero"], apart := false }
def Ipv4ParsesSaid : Prop := ipv4ParsesRow.holds Try.pinned (OpenSpec.ofChange ipv4ParsesSpec)

/-- ITS FALSE NEIGHBOUR: 'it returns false'. Refute it at one input. -/
def ipv4ParsesWrong : ChangeSpec := { name := "ipv4Parses", fn := fun _ => fun
  | [d] => { results := [.lit (.bool false)], args := [d] }
  | _ => none }
def Ipv4ParsesWrongFalsely : Prop := ipv4ParsesRow.holds Try.pinned (OpenSpec.ofChange ipv4ParsesWrong)

/-- 'linkboylaw06.Ipv4Puts': WHATEVER THE INPUT: true; the input reads as it did. -/
def ipv4PutsSpec : ChangeSpec := { name := "ipv4Puts", fn := fun _ => fun
  | [d1, d2] => { results := [.lit (.bool true)], args := [d1, d2] }
  | _ => none }
def ipv4PutsRow : OpenClaim := { program := "ytfejdfdgbfpgkaa", sum := "6d256236488a90cc69281133900650681280fd707086aae3abe3b7d186dc0826", func := "linkboy/linkboylaw06.Ipv4Puts", spec := "ipv4Puts", inPlace := ["internal/bytealg.MakeNoZero"], apart := false }
def Ipv4PutsSaid : Prop := ipv4PutsRow.holds Try.pinned (OpenSpec.ofChange ipv4PutsSpec)

/-- ITS FALSE NEIGHBOUR: 'it returns false'. Refute it at one input. -/
def ipv4PutsWrong : ChangeSpec := { name := "ipv4Puts", fn := fun _ => fun
  | [d1, d2] => { results := [.lit (.bool false)], args := [d1, d2] }
  | _ => none }
def Ipv4PutsWrongFalsely : Prop := ipv4PutsRow.holds Try.pinned (OpenSpec.ofChange ipv4PutsWrong)

/-- 'linkboylaw06.Ipv4Back': WHATEVER THE INPUT: true; the input reads as it did. -/
def ipv4BackSpec : ChangeSpec := { name := "ipv4Back", fn := fun _ => fun
  | [d] => { results := [.lit (.bool true)], args := [d] }
  | _ => none }
def ipv4BackRow : OpenClaim := { program := "ytfejdfdgbfpgkaa", sum := "6d256236488a90cc69281133900650681280fd707086aae3abe3b7d186dc0826", func := "linkboy/linkboylaw06.Ipv4Back", spec := "ipv4Back", inPlace := ["internal/bytealg.MakeNoZero"], apart := false }
def Ipv4BackSaid : Prop := ipv4BackRow.holds Try.pinned (OpenSpec.ofChange ipv4BackSpec)

/-- ITS FALSE NEIGHBOUR: 'it returns false'. Refute it at one input. -/
def ipv4BackWrong : ChangeSpec := { name := "ipv4Back", fn := fun _ => fun
  | [d] => { results := [.lit (.bool false)], args := [d] }
  | _ => none }
def Ipv4BackWrongFalsely : Prop := ipv4BackRow.holds Try.pinned (OpenSpec.ofChange ipv4BackWrong)

/-- 'linkboylaw06.Ipv4Turns': WHATEVER THE INPUT: true; the input reads as it did. -/
def ipv4TurnsSpec : ChangeSpec := { name := "ipv4Turns", fn := fun _ => fun
  | [d1, d2] => { results := [.lit (.bool true)], args := [d1, d2] }
  | _ => none }
def ipv4TurnsRow : OpenClaim := { program := "ytfejdfdgbfpgkaa", sum := "6d256236488a90cc69281133900650681280fd707086aae3abe3b7d186dc0826", func := "linkboy/linkboylaw06.Ipv4Turns", spec := "ipv4Turns", inPlace := ["internal/bytealg.MakeNoZero"], apart := false }
def Ipv4TurnsSaid : Prop := ipv4TurnsRow.holds Try.pinned (OpenSpec.ofChange ipv4TurnsSpec)

/-- ITS FALSE NEIGHBOUR: 'it returns false'. Refute it at one input. -/
def ipv4TurnsWrong : ChangeSpec := { name := "ipv4Turns", fn := fun _ => fun
  | [d1, d2] => { results := [.lit (.bool false)], args := [d1, d2] }
  | _ => none }
def Ipv4TurnsWrongFalsely : Prop := ipv4TurnsRow.holds Try.pinned (OpenSpec.ofChange ipv4TurnsWrong)

/-- 'linkboylaw09.TcpParses': WHATEVER THE INPUT: true; the input reads as it did. -/
def tcpParsesSpec : ChangeSpec := { name := "tcpParses", fn := fun _ => fun
  | [d1, d2, d3] => { results := [.lit (.bool true)], args := [d1, d2, d3] }
  | _ => none }
def tcpParsesRow : OpenClaim := { program := "ytfejdfdgbfpgkaa", sum := "6d256236488a90cc69281133900650681280fd707086aae3abe3b7d186dc0826", func := "linkboy/linkboylaw09.TcpParses", spec := "tcpParses", inPlace := ["internal/bytealg.MakeNoZero"], apart := false }
def TcpParsesSaid : Prop := tcpParsesRow.holds Try.pinned (OpenSpec.ofChange tcpParsesSpec)

/-- ITS FALSE NEIGHBOUR: 'it returns false'. Refute it at one input. -/
def tcpParsesWrong : ChangeSpec := { name := "tcpParses", fn := fun _ => fun
  | [d1, d2, d3] => { results := [.lit (.bool false)], args := [d1, d2, d3] }
  | _ => none }
def TcpParsesWrongFalsely : Prop := tcpParsesRow.holds Try.pinned (OpenSpec.ofChange tcpParsesWrong)

/-- 'linkboylaw09.TcpPuts': WHATEVER THE INPUT: true; the input reads as it did. -/
def tcpPutsSpec : ChangeSpec := { name := "tcpPuts", fn := fun _ => fun
  | [d1, d2, d3] => { results := [.lit (.bool true)], args := [d1, d2, d3] }
  | _ => none }
def tcpPutsRow : OpenClaim := { program := "ytfejdfdgbfpgkaa", sum := "6d256236488a90cc69281133900650681280fd707086aae3abe3b7d186dc0826", func := "linkboy/linkboylaw09.TcpPuts", spec := "tcpPuts", inPlace := ["internal/bytealg.MakeNoZero"], apart := false }
def TcpPutsSaid : Prop := tcpPutsRow.holds Try.pinned (OpenSpec.ofChange tcpPutsSpec)

/-- ITS FALSE NEIGHBOUR: 'it returns false'. Refute it at one input. -/
def tcpPutsWrong : ChangeSpec := { name := "tcpPuts", fn := fun _ => fun
  | [d1, d2, d3] => { results := [.lit (.bool false)], args := [d1, d2, d3] }
  | _ => none }
def TcpPutsWrongFalsely : Prop := tcpPutsRow.holds Try.pinned (OpenSpec.ofChange tcpPutsWrong)

/-- 'linkboylaw09.TcpSpaces': WHATEVER THE INPUT: true; the input reads as it did. -/
def tcpSpacesSpec : ChangeSpec := { name := "tcpSpaces", fn := fun _ => fun
  | [d1, d2] => { results := [.lit (.bool true)], args := [d1, d2] }
  | _ => none }
def tcpSpacesRow : OpenClaim := { program := "ytfejdfdgbfpgkaa", sum := "6d256236488a90cc69281133900650681280fd707086aae3abe3b7d186dc0826", func := "linkboy/linkboylaw09.TcpSpaces", spec := "tcpSpaces", inPlace := ["internal/bytealg.MakeNoZero"], apart := false }
def TcpSpacesSaid : Prop := tcpSpacesRow.holds Try.pinned (OpenSpec.ofChange tcpSpacesSpec)

/-- ITS FALSE NEIGHBOUR: 'it returns false'. Refute it at one input. -/
def tcpSpacesWrong : ChangeSpec := { name := "tcpSpaces", fn := fun _ => fun
  | [d1, d2] => { results := [.lit (.bool false)], args := [d1, d2] }
  | _ => none }
def TcpSpacesWrongFalsely : Prop := tcpSpacesRow.holds Try.pinned (OpenSpec.ofChange tcpSpacesWrong)

/-- 'linkboylaw09.TcpBounds': WHATEVER THE INPUT: true; the input reads as it did. -/
def tcpBoundsSpec : ChangeSpec := { name := "tcpBounds", fn := fun _ => fun
  | [d] => { results := [.lit (.bool true)], args := [d] }
  | _ => none }
def tcpBoundsRow : OpenClaim := { program := "ytfejdfdgbfpgkaa", sum := "6d256236488a90cc69281133900650681280fd707086aae3abe3b7d186dc0826", func := "linkboy/linkboylaw09.TcpBounds", spec := "tcpBounds", inPlace := ["internal/bytealg.MakeNoZero"], apart := false }
def TcpBoundsSaid : Prop := tcpBoundsRow.holds Try.pinned (OpenSpec.ofChange tcpBoundsSpec)

/-- ITS FALSE NEIGHBOUR: 'it returns false'. Refute it at one input. -/
def tcpBoundsWrong : ChangeSpec := { name := "tcpBounds", fn := fun _ => fun
  | [d] => { results := [.lit (.bool false)], args := [d] }
  | _ => none }
def TcpBoundsWrongFalsely : Prop := tcpBoundsRow.holds Try.pinned (OpenSpec.ofChange tcpBoundsWrong)

/-- 'linkboylaw10.ToptReads': WHATEVER THE INPUT: true; the input reads as it did. -/
def toptReadsSpec : ChangeSpec := { name := "toptReads", fn := fun _ => fun
  | [d] => { results := [.lit (.bool true)], args := [d] }
  | _ => none }
def toptReadsRow : OpenClaim := { program := "ytfejdfdgbfpgkaa", sum := "6d256236488a90cc69281133900650681280fd707086aae3abe3b7d186dc0826", func := "linkboy/linkboylaw10.ToptReads", spec := "toptReads", inPlace := ["internal/bytealg.MakeNoZero"], apart := false }
def ToptReadsSaid : Prop := toptReadsRow.holds Try.pinned (OpenSpec.ofChange toptReadsSpec)

/-- ITS FALSE NEIGHBOUR: 'it returns false'. Refute it at one input. -/
def toptReadsWrong : ChangeSpec := { name := "toptReads", fn := fun _ => fun
  | [d] => { results := [.lit (.bool false)], args := [d] }
  | _ => none }
def ToptReadsWrongFalsely : Prop := toptReadsRow.holds Try.pinned (OpenSpec.ofChange toptReadsWrong)

/-- 'linkboylaw10.ToptPuts': WHATEVER THE INPUT: true; the input reads as it did. -/
def toptPutsSpec : ChangeSpec := { name := "toptPuts", fn := fun _ => fun
  | [d1, d2] => { results := [.lit (.bool true)], args := [d1, d2] }
  | _ => none }
def toptPutsRow : OpenClaim := { program := "ytfejdfdgbfpgkaa", sum := "6d256236488a90cc69281133900650681280fd707086aae3abe3b7d186dc0826", func := "linkboy/linkboylaw10.ToptPuts", spec := "toptPuts", inPlace := ["internal/bytealg.MakeNoZero"], apart := false }
def ToptPutsSaid : Prop := toptPutsRow.holds Try.pinned (OpenSpec.ofChange toptPutsSpec)

/-- ITS FALSE NEIGHBOUR: 'it returns false'. Refute it at one input. -/
def toptPutsWrong : ChangeSpec := { name := "toptPuts", fn := fun _ => fun
  | [d1, d2] => { results := [.lit (.bool false)], args := [d1, d2] }
  | _ => none }
def ToptPutsWrongFalsely : Prop := toptPutsRow.holds Try.pinned (OpenSpec.ofChange toptPutsWrong)

/-- 'linkboylaw10.ToptEnds': WHATEVER THE INPUT: true; the input reads as it did. -/
def toptEndsSpec : ChangeSpec := { name := "toptEnds", fn := fun _ => fun
  | [d1, d2] => { results := [.lit (.bool true)], args := [d1, d2] }
  | _ => none }
def toptEndsRow : OpenClaim := { program := "ytfejdfdgbfpgkaa", sum := "6d256236488a90cc69281133900650681280fd707086aae3abe3b7d186dc0826", func := "linkboy/linkboylaw10.ToptEnds", spec := "toptEnds", inPlace := ["internal/bytealg.MakeNoZero"], apart := false }
def ToptEndsSaid : Prop := toptEndsRow.holds Try.pinned (OpenSpec.ofChange toptEndsSpec)

/-- ITS FALSE NEIGHBOUR: 'it returns false'. Refute it at one input. -/
def toptEndsWrong : ChangeSpec := { name := "toptEnds", fn := fun _ => fun
  | [d1, d2] => { results := [.lit (.bool false)], args := [d1, d2] }
  | _ => none }
def ToptEndsWrongFalsely : Prop := toptEndsRow.holds Try.pinned (OpenSpec.ofChange toptEndsWrong)

/-- 'linkboylaw28.SpliceApplies': WHATEVER THE INPUT: true; the input reads as it did. -/
def spliceAppliesSpec : ChangeSpec := { name := "spliceApplies", fn := fun _ => fun
  | [d1, d2, d3, d4, d5] => { results := [.lit (.bool true)], args := [d1, d2, d3, d4, d5] }
  | _ => none }
def spliceAppliesRow : OpenClaim := { program := "ytfejdfdgbfpgkaa", sum := "6d256236488a90cc69281133900650681280fd707086aae3abe3b7d186dc0826", func := "linkboy/linkboylaw28.SpliceApplies", spec := "spliceApplies", apart := false }
def SpliceAppliesSaid : Prop := spliceAppliesRow.holds Try.pinned (OpenSpec.ofChange spliceAppliesSpec)

/-- ITS FALSE NEIGHBOUR: 'it returns false'. Refute it at one input. -/
def spliceAppliesWrong : ChangeSpec := { name := "spliceApplies", fn := fun _ => fun
  | [d1, d2, d3, d4, d5] => { results := [.lit (.bool false)], args := [d1, d2, d3, d4, d5] }
  | _ => none }
def SpliceAppliesWrongFalsely : Prop := spliceAppliesRow.holds Try.pinned (OpenSpec.ofChange spliceAppliesWrong)

/- THE SECOND FORM. 'bulk': how many values and letters a reading holds, each counted each time it is reached (what is shared counts as often as it is met; a slice's spare places count too). A statement '..UptoSaid' is the law's where the arguments, and the package variables that the reading takes, are together of bulk at most 1048576: NARROWER than '..Said'. Prove '..Said' where nothing that the law and all that it calls make is longer than what came in: it says more and counts as full. Else prove '..UptoSaid'. A law counts once. -/
mutual
def uptoBulk {H : Type} : DataW H → Nat
  | .lit (.string bytes) => bytes.length + 1
  | .lit _ => 1
  | .nil => 1
  | .ptr d => uptoBulk d + 1
  | .slice elems spare => uptoBulkAll elems + uptoBulkAll spare + 1
  | .agg parts => uptoBulkAll parts + 1
  | .iface _ d => uptoBulk d + 1
  | .map entries => uptoBulkEntries entries + 1
  | .held _ => 1
def uptoBulkAll {H : Type} : List (DataW H) → Nat
  | [] => 0
  | d :: r => uptoBulk d + uptoBulkAll r
def uptoBulkEntries {H : Type} : List (Lit × DataW H) → Nat
  | [] => 0
  | x :: r => uptoBulkEntry x + uptoBulkEntries r
def uptoBulkEntry {H : Type} : Lit × DataW H → Nat
  | (.string bytes, d) => bytes.length + uptoBulk d + 1
  | (_, d) => uptoBulk d + 1
 end
def uptoSmall : (H : Type) → List (DataW H) → Bool := fun _ ds => decide (uptoBulkAll ds ≤ 1048576)
def OpenSpec.upto (s : _root_.Go.ChangeSpec) : _root_.Go.OpenSpec := { _root_.Go.OpenSpec.ofChange s with cond := some uptoSmall }

/-- 'linkboylaw06.Ipv4Parses', WHERE WHAT IT READS IS OF BULK AT MOST 1048576: true; the input reads as it did. -/
def ipv4ParsesUptoRow : OpenClaim := { program := "ytfejdfdgbfpgkaa", sum := "6d256236488a90cc69281133900650681280fd707086aae3abe3b7d186dc0826", func := "linkboy/linkboylaw06.Ipv4Parses", spec := "ipv4Parses", inPlace := ["internal/bytealg.MakeNoZero"], apart := false, narrowed := true }
def Ipv4ParsesUptoSaid : Prop := ipv4ParsesUptoRow.holds Try.pinned (OpenSpec.upto ipv4ParsesSpec)

/-- 'linkboylaw06.Ipv4Puts', WHERE WHAT IT READS IS OF BULK AT MOST 1048576: true; the input reads as it did. -/
def ipv4PutsUptoRow : OpenClaim := { program := "ytfejdfdgbfpgkaa", sum := "6d256236488a90cc69281133900650681280fd707086aae3abe3b7d186dc0826", func := "linkboy/linkboylaw06.Ipv4Puts", spec := "ipv4Puts", inPlace := ["internal/bytealg.MakeNoZero"], apart := false, narrowed := true }
def Ipv4PutsUptoSaid : Prop := ipv4PutsUptoRow.holds Try.pinned (OpenSpec.upto ipv4PutsSpec)

/-- 'linkboylaw06.Ipv4Back', WHERE WHAT IT READS IS OF BULK AT MOST 1048576: true; the input reads as it did. -/
def ipv4BackUptoRow : OpenClaim := { program := "ytfejdfdgbfpgkaa", sum := "6d256236488a90cc69281133900650681280fd707086aae3abe3b7d186dc0826", func := "linkboy/linkboylaw06.Ipv4Back", spec := "ipv4Back", inPlace := ["internal/bytealg.MakeNoZero"], apart := false, narrowed := true }
def Ipv4BackUptoSaid : Prop := ipv4BackUptoRow.holds Try.pinned (OpenSpec.upto ipv4BackSpec)

/-- 'linkboylaw06.Ipv4Turns', WHERE WHAT IT READS IS OF BULK AT MOST 1048576: true; the input reads as it did. -/
def ipv4TurnsUptoRow : OpenClaim := { program := "ytfejdfdgbfpgkaa", sum := "6d256236488a90cc69281133900650681280fd707086aae3abe3b7d186dc0826", func := "linkboy/linkboylaw06.Ipv4Turns", spec := "ipv4Turns", inPlace := ["internal/bytealg.MakeNoZero"], apart := false, narrowed := true }
def Ipv4TurnsUptoSaid : Prop := ipv4TurnsUptoRow.holds Try.pinned (OpenSpec.upto ipv4TurnsSpec)

/-- 'linkboylaw09.TcpParses', WHERE WHAT IT READS IS OF BULK AT MOST 1048576: true; the input reads as it did. -/
def tcpParsesUptoRow : OpenClaim := { program := "ytfejdfdgbfpgkaa", sum := "6d256236488a90cc69281133900650681280fd707086aae3abe3b7d186dc0826", func := "linkboy/linkboylaw09.TcpParses", spec := "tcpParses", inPlace := ["internal/bytealg.MakeNoZero"], apart := false, narrowed := true }
def TcpParsesUptoSaid : Prop := tcpParsesUptoRow.holds Try.pinned (OpenSpec.upto tcpParsesSpec)

/-- 'linkboylaw09.TcpPuts', WHERE WHAT IT READS IS OF BULK AT MOST 1048576: true; the input reads as it did. -/
def tcpPutsUptoRow : OpenClaim := { program := "ytfejdfdgbfpgkaa", sum := "6d256236488a90cc69281133900650681280fd707086aae3abe3b7d186dc0826", func := "linkboy/linkboylaw09.TcpPuts", spec := "tcpPuts", inPlace := ["internal/bytealg.MakeNoZero"], apart := false, narrowed := true }
def TcpPutsUptoSaid : Prop := tcpPutsUptoRow.holds Try.pinned (OpenSpec.upto tcpPutsSpec)

/-- 'linkboylaw09.TcpSpaces', WHERE WHAT IT READS IS OF BULK AT MOST 1048576: true; the input reads as it did. -/
def tcpSpacesUptoRow : OpenClaim := { program := "ytfejdfdgbfpgkaa", sum := "6d256236488a90cc69281133900650681280fd707086aae3abe3b7d186dc0826", func := "linkboy/linkboylaw09.TcpSpaces", spec := "tcpSpaces", inPlace := ["internal/bytealg.MakeNoZero"], apart := false, narrowed := true }
def TcpSpacesUptoSaid : Prop := tcpSpacesUptoRow.holds Try.pinned (OpenSpec.upto tcpSpacesSpec)

/-- 'linkboylaw09.TcpBounds', WHERE WHAT IT READS IS OF BULK AT MOST 1048576: true; the input reads as it did. -/
def tcpBoundsUptoRow : OpenClaim := { program := "ytfejdfdgbfpgkaa", sum := "6d256236488a90cc69281133900650681280fd707086aae3abe3b7d186dc0826", func := "linkboy/linkboylaw09.TcpBounds", spec := "tcpBounds", inPlace := ["internal/bytealg.MakeNoZero"], apart := false, narrowed := true }
def TcpBoundsUptoSaid : Prop := tcpBoundsUptoRow.holds Try.pinned (OpenSpec.upto tcpBoundsSpec)

/-- 'linkboylaw10.ToptReads', WHERE WHAT IT READS IS OF BULK AT MOST 1048576: true; the input reads as it did. -/
def toptReadsUptoRow : OpenClaim := { program := "ytfejdfdgbfpgkaa", sum := "6d256236488a90cc69281133900650681280fd707086aae3abe3b7d186dc0826", func := "linkboy/linkboylaw10.ToptReads", spec := "toptReads", inPlace := ["internal/bytealg.MakeNoZero"], apart := false, narrowed := true }
def ToptReadsUptoSaid : Prop := toptReadsUptoRow.holds Try.pinned (OpenSpec.upto toptReadsSpec)

/-- 'linkboylaw10.ToptPuts', WHERE WHAT IT READS IS OF BULK AT MOST 1048576: true; the input reads as it did. -/
def toptPutsUptoRow : OpenClaim := { program := "ytfejdfdgbfpgkaa", sum := "6d256236488a90cc69281133900650681280fd707086aae3abe3b7d186dc0826", func := "linkboy/linkboylaw10.ToptPuts", spec := "toptPuts", inPlace := ["internal/bytealg.MakeNoZero"], apart := false, narrowed := true }
def ToptPutsUptoSaid : Prop := toptPutsUptoRow.holds Try.pinned (OpenSpec.upto toptPutsSpec)

/-- 'linkboylaw10.ToptEnds', WHERE WHAT IT READS IS OF BULK AT MOST 1048576: true; the input reads as it did. -/
def toptEndsUptoRow : OpenClaim := { program := "ytfejdfdgbfpgkaa", sum := "6d256236488a90cc69281133900650681280fd707086aae3abe3b7d186dc0826", func := "linkboy/linkboylaw10.ToptEnds", spec := "toptEnds", inPlace := ["internal/bytealg.MakeNoZero"], apart := false, narrowed := true }
def ToptEndsUptoSaid : Prop := toptEndsUptoRow.holds Try.pinned (OpenSpec.upto toptEndsSpec)

/-- 'linkboylaw28.SpliceApplies', WHERE WHAT IT READS IS OF BULK AT MOST 1048576: true; the input reads as it did. -/
def spliceAppliesUptoRow : OpenClaim := { program := "ytfejdfdgbfpgkaa", sum := "6d256236488a90cc69281133900650681280fd707086aae3abe3b7d186dc0826", func := "linkboy/linkboylaw28.SpliceApplies", spec := "spliceApplies", apart := false, narrowed := true }
def SpliceAppliesUptoSaid : Prop := spliceAppliesUptoRow.holds Try.pinned (OpenSpec.upto spliceAppliesSpec)

end Rows
end Go.Proofs.Ytfejdfdgbfpgkaa
