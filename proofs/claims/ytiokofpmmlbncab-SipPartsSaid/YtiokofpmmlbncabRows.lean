/-
  No cell of these rows narrows 'for every input' (looked for: loops, veiled, ifaces, maps, wideKeys, modest, calm, conditions, laid).
  DERIVED. THE GIVEN ROWS OF THIS SEAT. 11 by the template 'for every input the law returns true; each argument reads behind the call as it read before'; 0 by the template 'total and deterministic' (their statements: YtiokofpmmlbncabTotals.lean).
  GIVEN WITH THE SEED: the statements are not yours to turn. If you find one false, say at which input.
  Laid BY PROGRAM, IN A SANDBOX (cutbox-rows.mjs): the forced cells as the released guide's own fill.sh prints them over the translation 7e8952fde246e675… (all of the seat's roots in one cut). By AI agents, Wed Nov 11 2026. No macro, syntax, notation, axiom, sorry.
-/
import Derived.Test.YtiokofpmmlbncabChecked
import GoSem.Claim
import GoSem.ClaimJoined
import GoSem.ClaimMapViews
import Derived.JoinedTies
import Derived.KernelRfl
namespace Go.Proofs.Ytiokofpmmlbncab
/- THE CELL 'sum', in the pinned program and in every row, IS THE sha256 OF THE DUMP (.gsa) THAT YtiokofpmmlbncabProg.lean LOADS. Nothing in Lean hashes anything: it is a label: what it is worth is what the hold of that sum in a sandbox is worth. -/
noncomputable def Try.pinned : Pinned := { name := "ytiokofpmmlbncab", sum := "7e8952fde246e675bf32ef63a6f7deabc8398478c487c62599c912a71577ffa2", checked := Try.checked }
namespace Rows
def none {H : Type} : Left H := { results := [], args := [] }

/-- 'linkboylaw06.Ipv4Back': WHATEVER THE INPUT: true; the input reads as it did. -/
def ipv4BackSpec : ChangeSpec := { name := "ipv4Back", fn := fun _ => fun
  | [d] => { results := [.lit (.bool true)], args := [d] }
  | _ => none }
def ipv4BackRow : OpenClaim := { program := "ytiokofpmmlbncab", sum := "7e8952fde246e675bf32ef63a6f7deabc8398478c487c62599c912a71577ffa2", func := "linkboy/linkboylaw06.Ipv4Back", spec := "ipv4Back", inPlace := ["internal/bytealg.MakeNoZero"], apart := false }
def Ipv4BackSaid : Prop := ipv4BackRow.holds Try.pinned (OpenSpec.ofChange ipv4BackSpec)

/-- ITS FALSE NEIGHBOUR: 'it returns false'. Refute it at one input. -/
def ipv4BackWrong : ChangeSpec := { name := "ipv4Back", fn := fun _ => fun
  | [d] => { results := [.lit (.bool false)], args := [d] }
  | _ => none }
def Ipv4BackWrongFalsely : Prop := ipv4BackRow.holds Try.pinned (OpenSpec.ofChange ipv4BackWrong)

/-- 'linkboylaw06.Ipv4Turns': WHATEVER THE INPUT: true; the input reads as it did. -/
def ipv4TurnsSpec : ChangeSpec := { name := "ipv4Turns", fn := fun _ => fun
  | [d1, d2] => { results := [.lit (.bool true)], args := [d1, d2] }
  | _ => none }
def ipv4TurnsRow : OpenClaim := { program := "ytiokofpmmlbncab", sum := "7e8952fde246e675bf32ef63a6f7deabc8398478c487c62599c912a71577ffa2", func := "linkboy/linkboylaw06.Ipv4Turns", spec := "ipv4Turns", inPlace := ["internal/bytealg.MakeNoZero"], apart := false }
def Ipv4TurnsSaid : Prop := ipv4TurnsRow.holds Try.pinned (OpenSpec.ofChange ipv4TurnsSpec)

/-- ITS FALSE NEIGHBOUR: 'it returns false'. Refute it at one input. -/
def ipv4TurnsWrong : ChangeSpec := { name := "ipv4Turns", fn := fun _ => fun
  | [d1, d2] => { results := [.lit (.bool false)], args := [d1, d2] }
  | _ => none }
def Ipv4TurnsWrongFalsely : Prop := ipv4TurnsRow.holds Try.pinned (OpenSpec.ofChange ipv4TurnsWrong)

/-- 'linkboylaw05.ArpParses': WHATEVER THE INPUT: true; the input reads as it did. -/
def arpParsesSpec : ChangeSpec := { name := "arpParses", fn := fun _ => fun
  | [d] => { results := [.lit (.bool true)], args := [d] }
  | _ => none }
def arpParsesRow : OpenClaim := { program := "ytiokofpmmlbncab", sum := "7e8952fde246e675bf32ef63a6f7deabc8398478c487c62599c912a71577ffa2", func := "linkboy/linkboylaw05.ArpParses", spec := "arpParses", inPlace := ["internal/bytealg.MakeNoZero"], apart := false }
def ArpParsesSaid : Prop := arpParsesRow.holds Try.pinned (OpenSpec.ofChange arpParsesSpec)

/-- ITS FALSE NEIGHBOUR: 'it returns false'. Refute it at one input. -/
def arpParsesWrong : ChangeSpec := { name := "arpParses", fn := fun _ => fun
  | [d] => { results := [.lit (.bool false)], args := [d] }
  | _ => none }
def ArpParsesWrongFalsely : Prop := arpParsesRow.holds Try.pinned (OpenSpec.ofChange arpParsesWrong)

/-- 'linkboylaw05.ArpPuts': WHATEVER THE INPUT: true; the input reads as it did. -/
def arpPutsSpec : ChangeSpec := { name := "arpPuts", fn := fun _ => fun
  | [d1, d2] => { results := [.lit (.bool true)], args := [d1, d2] }
  | _ => none }
def arpPutsRow : OpenClaim := { program := "ytiokofpmmlbncab", sum := "7e8952fde246e675bf32ef63a6f7deabc8398478c487c62599c912a71577ffa2", func := "linkboy/linkboylaw05.ArpPuts", spec := "arpPuts", inPlace := ["internal/bytealg.MakeNoZero"], apart := false }
def ArpPutsSaid : Prop := arpPutsRow.holds Try.pinned (OpenSpec.ofChange arpPutsSpec)

/-- ITS FALSE NEIGHBOUR: 'it returns false'. Refute it at one input. -/
def arpPutsWrong : ChangeSpec := { name := "arpPuts", fn := fun _ => fun
  | [d1, d2] => { results := [.lit (.bool false)], args := [d1, d2] }
  | _ => none }
def ArpPutsWrongFalsely : Prop := arpPutsRow.holds Try.pinned (OpenSpec.ofChange arpPutsWrong)

/-- 'linkboylaw05.ArpAsks': WHATEVER THE INPUT: true; the input reads as it did. -/
def arpAsksSpec : ChangeSpec := { name := "arpAsks", fn := fun _ => fun
  | [d1, d2, d3, d4, d5] => { results := [.lit (.bool true)], args := [d1, d2, d3, d4, d5] }
  | _ => none }
def arpAsksRow : OpenClaim := { program := "ytiokofpmmlbncab", sum := "7e8952fde246e675bf32ef63a6f7deabc8398478c487c62599c912a71577ffa2", func := "linkboy/linkboylaw05.ArpAsks", spec := "arpAsks", inPlace := ["internal/bytealg.MakeNoZero"], apart := false }
def ArpAsksSaid : Prop := arpAsksRow.holds Try.pinned (OpenSpec.ofChange arpAsksSpec)

/-- ITS FALSE NEIGHBOUR: 'it returns false'. Refute it at one input. -/
def arpAsksWrong : ChangeSpec := { name := "arpAsks", fn := fun _ => fun
  | [d1, d2, d3, d4, d5] => { results := [.lit (.bool false)], args := [d1, d2, d3, d4, d5] }
  | _ => none }
def ArpAsksWrongFalsely : Prop := arpAsksRow.holds Try.pinned (OpenSpec.ofChange arpAsksWrong)

/-- 'linkboylaw10.ToptReads': WHATEVER THE INPUT: true; the input reads as it did. -/
def toptReadsSpec : ChangeSpec := { name := "toptReads", fn := fun _ => fun
  | [d] => { results := [.lit (.bool true)], args := [d] }
  | _ => none }
def toptReadsRow : OpenClaim := { program := "ytiokofpmmlbncab", sum := "7e8952fde246e675bf32ef63a6f7deabc8398478c487c62599c912a71577ffa2", func := "linkboy/linkboylaw10.ToptReads", spec := "toptReads", inPlace := ["internal/bytealg.MakeNoZero"], apart := false }
def ToptReadsSaid : Prop := toptReadsRow.holds Try.pinned (OpenSpec.ofChange toptReadsSpec)

/-- ITS FALSE NEIGHBOUR: 'it returns false'. Refute it at one input. -/
def toptReadsWrong : ChangeSpec := { name := "toptReads", fn := fun _ => fun
  | [d] => { results := [.lit (.bool false)], args := [d] }
  | _ => none }
def ToptReadsWrongFalsely : Prop := toptReadsRow.holds Try.pinned (OpenSpec.ofChange toptReadsWrong)

/-- 'linkboylaw10.ToptPuts': WHATEVER THE INPUT: true; the input reads as it did. -/
def toptPutsSpec : ChangeSpec := { name := "toptPuts", fn := fun _ => fun
  | [d1, d2] => { results := [.lit (.bool true)], args := [d1, d2] }
  | _ => none }
def toptPutsRow : OpenClaim := { program := "ytiokofpmmlbncab", sum := "7e8952fde246e675bf32ef63a6f7deabc8398478c487c62599c912a71577ffa2", func := "linkboy/linkboylaw10.ToptPuts", spec := "toptPuts", inPlace := ["internal/bytealg.MakeNoZero"], apart := false }
def ToptPutsSaid : Prop := toptPutsRow.holds Try.pinned (OpenSpec.ofChange toptPutsSpec)

/-- ITS FALSE NEIGHBOUR: 'it returns false'. Refute it at one input. -/
def toptPutsWrong : ChangeSpec := { name := "toptPuts", fn := fun _ => fun
  | [d1, d2] => { results := [.lit (.bool false)], args := [d1, d2] }
  | _ => none }
def ToptPutsWrongFalsely : Prop := toptPutsRow.holds Try.pinned (OpenSpec.ofChange toptPutsWrong)

/-- 'linkboylaw10.ToptEnds': WHATEVER THE INPUT: true; the input reads as it did. -/
def toptEndsSpec : ChangeSpec := { name := "toptEnds", fn := fun _ => fun
  | [d1, d2] => { results := [.lit (.bool true)], args := [d1, d2] }
  | _ => none }
def toptEndsRow : OpenClaim := { program := "ytiokofpmmlbncab", sum := "7e8952fde246e675bf32ef63a6f7deabc8398478c487c62599c912a71577ffa2", func := "linkboy/linkboylaw10.ToptEnds", spec := "toptEnds", inPlace := ["internal/bytealg.MakeNoZero"], apart := false }
def ToptEndsSaid : Prop := toptEndsRow.holds Try.pinned (OpenSpec.ofChange toptEndsSpec)

/-- ITS FALSE NEIGHBOUR: 'it returns false'. Refute it at one input. -/
def toptEndsWrong : ChangeSpec := { name := "toptEnds", fn := fun _ => fun
  | [d1, d2] => { results := [.lit (.bool false)], args := [d1, d2] }
  | _ => none }
def ToptEndsWrongFalsely : Prop := toptEndsRow.holds Try.pinned (OpenSpec.ofChange toptEndsWrong)

/-- 'linkboylaw13.SipSums': WHATEVER THE INPUT: true; the input reads as it did. -/
def sipSumsSpec : ChangeSpec := { name := "sipSums", fn := fun _ => fun
  | [d1, d2, d3] => { results := [.lit (.bool true)], args := [d1, d2, d3] }
  | _ => none }
def sipSumsRow : OpenClaim := { program := "ytiokofpmmlbncab", sum := "7e8952fde246e675bf32ef63a6f7deabc8398478c487c62599c912a71577ffa2", func := "linkboy/linkboylaw13.SipSums", spec := "sipSums", apart := false }
def SipSumsSaid : Prop := sipSumsRow.holds Try.pinned (OpenSpec.ofChange sipSumsSpec)

/-- ITS FALSE NEIGHBOUR: 'it returns false'. Refute it at one input. -/
def sipSumsWrong : ChangeSpec := { name := "sipSums", fn := fun _ => fun
  | [d1, d2, d3] => { results := [.lit (.bool false)], args := [d1, d2, d3] }
  | _ => none }
def SipSumsWrongFalsely : Prop := sipSumsRow.holds Try.pinned (OpenSpec.ofChange sipSumsWrong)

/-- 'linkboylaw13.SipParts': WHATEVER THE INPUT: true; the input reads as it did. -/
def sipPartsSpec : ChangeSpec := { name := "sipParts", fn := fun _ => fun
  | [d1, d2, d3] => { results := [.lit (.bool true)], args := [d1, d2, d3] }
  | _ => none }
def sipPartsRow : OpenClaim := { program := "ytiokofpmmlbncab", sum := "7e8952fde246e675bf32ef63a6f7deabc8398478c487c62599c912a71577ffa2", func := "linkboy/linkboylaw13.SipParts", spec := "sipParts", apart := false }
def SipPartsSaid : Prop := sipPartsRow.holds Try.pinned (OpenSpec.ofChange sipPartsSpec)

/-- ITS FALSE NEIGHBOUR: 'it returns false'. Refute it at one input. -/
def sipPartsWrong : ChangeSpec := { name := "sipParts", fn := fun _ => fun
  | [d1, d2, d3] => { results := [.lit (.bool false)], args := [d1, d2, d3] }
  | _ => none }
def SipPartsWrongFalsely : Prop := sipPartsRow.holds Try.pinned (OpenSpec.ofChange sipPartsWrong)

/-- 'linkboylaw29.TunBounds': WHATEVER THE INPUT: true; the input reads as it did. -/
def tunBoundsSpec : ChangeSpec := { name := "tunBounds", fn := fun _ => fun
  | [d1, d2] => { results := [.lit (.bool true)], args := [d1, d2] }
  | _ => none }
def tunBoundsRow : OpenClaim := { program := "ytiokofpmmlbncab", sum := "7e8952fde246e675bf32ef63a6f7deabc8398478c487c62599c912a71577ffa2", func := "linkboy/linkboylaw29.TunBounds", spec := "tunBounds", inPlace := ["internal/bytealg.MakeNoZero"], apart := false }
def TunBoundsSaid : Prop := tunBoundsRow.holds Try.pinned (OpenSpec.ofChange tunBoundsSpec)

/-- ITS FALSE NEIGHBOUR: 'it returns false'. Refute it at one input. -/
def tunBoundsWrong : ChangeSpec := { name := "tunBounds", fn := fun _ => fun
  | [d1, d2] => { results := [.lit (.bool false)], args := [d1, d2] }
  | _ => none }
def TunBoundsWrongFalsely : Prop := tunBoundsRow.holds Try.pinned (OpenSpec.ofChange tunBoundsWrong)

/- THE SECOND FORM. 'bulk': how many values and letters a reading holds, each counted each time it is reached (what is shared counts as often as it is met; a slice's spare places count too). A statement '..UptoSaid' is the law's where the arguments, and the package variables that the reading takes, are together of bulk at most 1048576: NARROWER than '..Said'. Prove '..Said' where nothing that the law and all that it calls make is longer than what came in: it says more and counts as full. Else prove '..UptoSaid'. A law counts once. -/
mutual
def uptoBulk {H : Type} : DataW H → Nat
  | .lit (.string bytes) => bytes.length + 1
  | .lit _ => 1
  | .nil => 1
  | .ptr d => uptoBulk d + 1
  | .slice elems spare => uptoBulkAll elems + uptoBulkAll spare + 1
  | .agg parts => uptoBulkAll parts + 1
  | .iface _ d => uptoBulk d + 1
  | .map entries => uptoBulkEntries entries + 1
  | .held _ => 1
def uptoBulkAll {H : Type} : List (DataW H) → Nat
  | [] => 0
  | d :: r => uptoBulk d + uptoBulkAll r
def uptoBulkEntries {H : Type} : List (Lit × DataW H) → Nat
  | [] => 0
  | x :: r => uptoBulkEntry x + uptoBulkEntries r
def uptoBulkEntry {H : Type} : Lit × DataW H → Nat
  | (.string bytes, d) => bytes.length + uptoBulk d + 1
  | (_, d) => uptoBulk d + 1
 end
def uptoSmall : (H : Type) → List (DataW H) → Bool := fun _ ds => decide (uptoBulkAll ds ≤ 1048576)
def OpenSpec.upto (s : _root_.Go.ChangeSpec) : _root_.Go.OpenSpec := { _root_.Go.OpenSpec.ofChange s with cond := some uptoSmall }

/-- 'linkboylaw06.Ipv4Back', WHERE WHAT IT READS IS OF BULK AT MOST 1048576: true; the input reads as it did. -/
def ipv4BackUptoRow : OpenClaim := { program := "ytiokofpmmlbncab", sum := "7e8952fde246e675bf32ef63a6f7deabc8398478c487c62599c912a71577ffa2", func := "linkboy/linkboylaw06.Ipv4Back", spec := "ipv4Back", inPlace := ["internal/bytealg.MakeNoZero"], apart := false, narrowed := true }
def Ipv4BackUptoSaid : Prop := ipv4BackUptoRow.holds Try.pinned (OpenSpec.upto ipv4BackSpec)

/-- 'linkboylaw06.Ipv4Turns', WHERE WHAT IT READS IS OF BULK AT MOST 1048576: true; the input reads as it did. -/
def ipv4TurnsUptoRow : OpenClaim := { program := "ytiokofpmmlbncab", sum := "7e8952fde246e675bf32ef63a6f7deabc8398478c487c62599c912a71577ffa2", func := "linkboy/linkboylaw06.Ipv4Turns", spec := "ipv4Turns", inPlace := ["internal/bytealg.MakeNoZero"], apart := false, narrowed := true }
def Ipv4TurnsUptoSaid : Prop := ipv4TurnsUptoRow.holds Try.pinned (OpenSpec.upto ipv4TurnsSpec)

/-- 'linkboylaw05.ArpParses', WHERE WHAT IT READS IS OF BULK AT MOST 1048576: true; the input reads as it did. -/
def arpParsesUptoRow : OpenClaim := { program := "ytiokofpmmlbncab", sum := "7e8952fde246e675bf32ef63a6f7deabc8398478c487c62599c912a71577ffa2", func := "linkboy/linkboylaw05.ArpParses", spec := "arpParses", inPlace := ["internal/bytealg.MakeNoZero"], apart := false, narrowed := true }
def ArpParsesUptoSaid : Prop := arpParsesUptoRow.holds Try.pinned (OpenSpec.upto arpParsesSpec)

/-- 'linkboylaw05.ArpPuts', WHERE WHAT IT READS IS OF BULK AT MOST 1048576: true; the input reads as it did. -/
def arpPutsUptoRow : OpenClaim := { program := "ytiokofpmmlbncab", sum := "7e8952fde246e675bf32ef63a6f7deabc8398478c487c62599c912a71577ffa2", func := "linkboy/linkboylaw05.ArpPuts", spec := "arpPuts", inPlace := ["internal/bytealg.MakeNoZero"], apart := false, narrowed := true }
def ArpPutsUptoSaid : Prop := arpPutsUptoRow.holds Try.pinned (OpenSpec.upto arpPutsSpec)

/-- 'linkboylaw05.ArpAsks', WHERE WHAT IT READS IS OF BULK AT MOST 1048576: true; the input reads as it did. -/
def arpAsksUptoRow : OpenClaim := { program := "ytiokofpmmlbncab", sum := "7e8952fde246e675bf32ef63a6f7deabc8398478c487c62599c912a71577ffa2", func := "linkboy/linkboylaw05.ArpAsks", spec := "arpAsks", inPlace := ["internal/bytealg.MakeNoZero"], apart := false, narrowed := true }
def ArpAsksUptoSaid : Prop := arpAsksUptoRow.holds Try.pinned (OpenSpec.upto arpAsksSpec)

/-- 'linkboylaw10.ToptReads', WHERE WHAT IT READS IS OF BULK AT MOST 1048576: true; the input reads as it did. -/
def toptReadsUptoRow : OpenClaim := { program := "ytiokofpmmlbncab", sum := "7e8952fde246e675bf32ef63a6f7deabc8398478c487c62599c912a71577ffa2", func := "linkboy/linkboylaw10.ToptReads", spec := "toptReads", inPlace := ["internal/bytealg.MakeNoZero"], apart := false, narrowed := true }
def ToptReadsUptoSaid : Prop := toptReadsUptoRow.holds Try.pinned (OpenSpec.upto toptReadsSpec)

/-- 'linkboylaw10.ToptPuts', WHERE WHAT IT READS IS OF BULK AT MOST 1048576: true; the input reads as it did. -/
def toptPutsUptoRow : OpenClaim := { program := "ytiokofpmmlbncab", sum := "7e8952fde246e675bf32ef63a6f7deabc8398478c487c62599c912a71577ffa2", func := "linkboy/linkboylaw10.ToptPuts", spec := "toptPuts", inPlace := ["internal/bytealg.MakeNoZero"], apart := false, narrowed := true }
def ToptPutsUptoSaid : Prop := toptPutsUptoRow.holds Try.pinned (OpenSpec.upto toptPutsSpec)

/-- 'linkboylaw10.ToptEnds', WHERE WHAT IT READS IS OF BULK AT MOST 1048576: true; the input reads as it did. -/
def toptEndsUptoRow : OpenClaim := { program := "ytiokofpmmlbncab", sum := "7e8952fde246e675bf32ef63a6f7deabc8398478c487c62599c912a71577ffa2", func := "linkboy/linkboylaw10.ToptEnds", spec := "toptEnds", inPlace := ["internal/bytealg.MakeNoZero"], apart := false, narrowed := true }
def ToptEndsUptoSaid : Prop := toptEndsUptoRow.holds Try.pinned (OpenSpec.upto toptEndsSpec)

/-- 'linkboylaw13.SipSums', WHERE WHAT IT READS IS OF BULK AT MOST 1048576: true; the input reads as it did. -/
def sipSumsUptoRow : OpenClaim := { program := "ytiokofpmmlbncab", sum := "7e8952fde246e675bf32ef63a6f7deabc8398478c487c62599c912a71577ffa2", func := "linkboy/linkboylaw13.SipSums", spec := "sipSums", apart := false, narrowed := true }
def SipSumsUptoSaid : Prop := sipSumsUptoRow.holds Try.pinned (OpenSpec.upto sipSumsSpec)

/-- 'linkboylaw13.SipParts', WHERE WHAT IT READS IS OF BULK AT MOST 1048576: true; the input reads as it did. -/
def sipPartsUptoRow : OpenClaim := { program := "ytiokofpmmlbncab", sum := "7e8952fde246e675bf32ef63a6f7deabc8398478c487c62599c912a71577ffa2", func := "linkboy/linkboylaw13.SipParts", spec := "sipParts", apart := false, narrowed := true }
def SipPartsUptoSaid : Prop := sipPartsUptoRow.holds Try.pinned (OpenSpec.upto sipPartsSpec)

/-- 'linkboylaw29.TunBounds', WHERE WHAT IT READS IS OF BULK AT MOST 1048576: true; the input reads as it did. -/
def tunBoundsUptoRow : OpenClaim := { program := "ytiokofpmmlbncab", sum := "7e8952fde246e675bf32ef63a6f7deabc8398478c487c62599c912a71577ffa2", func := "linkboy/linkboylaw29.TunBounds", spec := "tunBounds", inPlace := ["internal/bytealg.MakeNoZero"], apart := false, narrowed := true }
def TunBoundsUptoSaid : Prop := tunBoundsUptoRow.holds Try.pinned (OpenSpec.upto tunBoundsSpec)

end Rows
end Go.Proofs.Ytiokofpmmlbncab
