/-
  No cell of these rows narrows 'for every input' (looked for: loops, veiled, ifaces, maps, wideKeys, modest, calm, conditions, laid).
  DERIVED. THE GIVEN ROWS OF THIS SEAT. 11 by the template 'for every input the law returns true; each argument reads behind the call as it read before'; 0 by the template 'total and deterministic' (their statements: YtkmjpjhlkakdhaaTotals.lean).
  GIVEN WITH THE SEED: the statements are not yours to turn. If you find one false, say at which input.
  Laid BY PROGRAM, IN A SANDBOX (cutbox-rows.mjs): the forced cells as the released guide's own fill.sh prints them over the translation ba697c6b591baf2a… (all of the seat's roots in one cut). By AI agents, Wed Nov 11 2026. No macro, syntax, notation, axiom, sorry.
-/
import Derived.Test.YtkmjpjhlkakdhaaChecked
import GoSem.Claim
import GoSem.ClaimJoined
import GoSem.ClaimMapViews
import Derived.JoinedTies
import Derived.KernelRfl
namespace Go.Proofs.Ytkmjpjhlkakdhaa
/- THE CELL 'sum', in the pinned program and in every row, IS THE sha256 OF THE DUMP (.gsa) THAT YtkmjpjhlkakdhaaProg.lean LOADS. Nothing in Lean hashes anything: it is a label: what it is worth is what the hold of that sum in a sandbox is worth. -/
noncomputable def Try.pinned : Pinned := { name := "ytkmjpjhlkakdhaa", sum := "ba697c6b591baf2a0cd0c49dad5e8f1e8c41e86ad3d230da978a2984ad6bdc35", checked := Try.checked }
namespace Rows
def none {H : Type} : Left H := { results := [], args := [] }

/-- 'linkboylaw05.ArpParses': WHATEVER THE INPUT: true; the input reads as it did. -/
def arpParsesSpec : ChangeSpec := { name := "arpParses", fn := fun _ => fun
  | [d] => { results := [.lit (.bool true)], args := [d] }
  | _ => none }
def arpParsesRow : OpenClaim := { program := "ytkmjpjhlkakdhaa", sum := "ba697c6b591baf2a0cd0c49dad5e8f1e8c41e86ad3d230da978a2984ad6bdc35", func := "linkboy/linkboylaw05.ArpParses", spec := "arpParses", inPlace := ["internal/bytealg.MakeNoZero"], apart := false }
def ArpParsesSaid : Prop := arpParsesRow.holds Try.pinned (OpenSpec.ofChange arpParsesSpec)

/-- ITS FALSE NEIGHBOUR: 'it returns false'. Refute it at one input. -/
def arpParsesWrong : ChangeSpec := { name := "arpParses", fn := fun _ => fun
  | [d] => { results := [.lit (.bool false)], args := [d] }
  | _ => none }
def ArpParsesWrongFalsely : Prop := arpParsesRow.holds Try.pinned (OpenSpec.ofChange arpParsesWrong)

/-- 'linkboylaw05.ArpPuts': WHATEVER THE INPUT: true; the input reads as it did. -/
def arpPutsSpec : ChangeSpec := { name := "arpPuts", fn := fun _ => fun
  | [d1, d2] => { results := [.lit (.bool true)], args := [d1, d2] }
  | _ => none }
def arpPutsRow : OpenClaim := { program := "ytkmjpjhlkakdhaa", sum := "ba697c6b591baf2a0cd0c49dad5e8f1e8c41e86ad3d230da978a2984ad6bdc35", func := "linkboy/linkboylaw05.ArpPuts", spec := "arpPuts", inPlace := ["internal/bytealg.MakeNoZero"], apart := false }
def ArpPutsSaid : Prop := arpPutsRow.holds Try.pinned (OpenSpec.ofChange arpPutsSpec)

/-- ITS FALSE NEIGHBOUR: 'it returns false'. Refute it at one input. -/
def arpPutsWrong : ChangeSpec := { name := "arpPuts", fn := fun _ => fun
  | [d1, d2] => { results := [.lit (.bool false)], args := [d1, d2] }
  | _ => none }
def ArpPutsWrongFalsely : Prop := arpPutsRow.holds Try.pinned (OpenSpec.ofChange arpPutsWrong)

/-- 'linkboylaw05.ArpAsks': WHATEVER THE INPUT: true; the input reads as it did. -/
def arpAsksSpec : ChangeSpec := { name := "arpAsks", fn := fun _ => fun
  | [d1, d2, d3, d4, d5] => { results := [.lit (.bool true)], args := [d1, d2, d3, d4, d5] }
  | _ => none }
def arpAsksRow : OpenClaim := { program := "ytkmjpjhlkakdhaa", sum := "ba697c6b591baf2a0cd0c49dad5e8f1e8c41e86ad3d230da978a2984ad6bdc35", func := "linkboy/linkboylaw05.ArpAsks", spec := "arpAsks", inPlace := ["internal/bytealg.MakeNoZero"], apart := false }
def ArpAsksSaid : Prop := arpAsksRow.holds Try.pinned (OpenSpec.ofChange arpAsksSpec)

/-- ITS FALSE NEIGHBOUR: 'it returns false'. Refute it at one input. -/
def arpAsksWrong : ChangeSpec := { name := "arpAsks", fn := fun _ => fun
  | [d1, d2, d3, d4, d5] => { results := [.lit (.bool false)], args := [d1, d2, d3, d4, d5] }
  | _ => none }
def ArpAsksWrongFalsely : Prop := arpAsksRow.holds Try.pinned (OpenSpec.ofChange arpAsksWrong)

/-- 'linkboylaw06.Ipv4Parses': WHATEVER THE INPUT: true; the input reads as it did. -/
def ipv4ParsesSpec : ChangeSpec := { name := "ipv4Parses", fn := fun _ => fun
  | [d] => { results := [.lit (.bool true)], args := [d] }
  | _ => none }
def ipv4ParsesRow : OpenClaim := { program := "ytkmjpjhlkakdhaa", sum := "ba697c6b591baf2a0cd0c49dad5e8f1e8c41e86ad3d230da978a2984ad6bdc35", func := "linkboy/linkboylaw06.Ipv4Parses", spec := "ipv4Parses", inPlace := ["internal/bytealg.MakeNoZero"], apart := false }
def Ipv4ParsesSaid : Prop := ipv4ParsesRow.holds Try.pinned (OpenSpec.ofChange ipv4ParsesSpec)

/-- ITS FALSE NEIGHBOUR: 'it returns false'. Refute it at one input. -/
def ipv4ParsesWrong : ChangeSpec := { name := "ipv4Parses", fn := fun _ => fun
  | [d] => { results := [.lit (.bool false)], args := [d] }
  | _ => none }
def Ipv4ParsesWrongFalsely : Prop := ipv4ParsesRow.holds Try.pinned (OpenSpec.ofChange ipv4ParsesWrong)

/-- 'linkboylaw06.Ipv4Puts': WHATEVER THE INPUT: true; the input reads as it did. -/
def ipv4PutsSpec : ChangeSpec := { name := "ipv4Puts", fn := fun _ => fun
  | [d1, d2] => { results := [.lit (.bool true)], args := [d1, d2] }
  | _ => none }
def ipv4PutsRow : OpenClaim := { program := "ytkmjpjhlkakdhaa", sum := "ba697c6b591baf2a0cd0c49dad5e8f1e8c41e86ad3d230da978a2984ad6bdc35", func := "linkboy/linkboylaw06.Ipv4Puts", spec := "ipv4Puts", inPlace := ["internal/bytealg.MakeNoZero"], apart := false }
def Ipv4PutsSaid : Prop := ipv4PutsRow.holds Try.pinned (OpenSpec.ofChange ipv4PutsSpec)

/-- ITS FALSE NEIGHBOUR: 'it returns false'. Refute it at one input. -/
def ipv4PutsWrong : ChangeSpec := { name := "ipv4Puts", fn := fun _ => fun
  | [d1, d2] => { results := [.lit (.bool false)], args := [d1, d2] }
  | _ => none }
def Ipv4PutsWrongFalsely : Prop := ipv4PutsRow.holds Try.pinned (OpenSpec.ofChange ipv4PutsWrong)

/-- 'linkboylaw06.Ipv4Back': WHATEVER THE INPUT: true; the input reads as it did. -/
def ipv4BackSpec : ChangeSpec := { name := "ipv4Back", fn := fun _ => fun
  | [d] => { results := [.lit (.bool true)], args := [d] }
  | _ => none }
def ipv4BackRow : OpenClaim := { program := "ytkmjpjhlkakdhaa", sum := "ba697c6b591baf2a0cd0c49dad5e8f1e8c41e86ad3d230da978a2984ad6bdc35", func := "linkboy/linkboylaw06.Ipv4Back", spec := "ipv4Back", inPlace := ["internal/bytealg.MakeNoZero"], apart := false }
def Ipv4BackSaid : Prop := ipv4BackRow.holds Try.pinned (OpenSpec.ofChange ipv4BackSpec)

/-- ITS FALSE NEIGHBOUR: 'it returns false'. Refute it at one input. -/
def ipv4BackWrong : ChangeSpec := { name := "ipv4Back", fn := fun _ => fun
  | [d] => { results := [.lit (.bool false)], args := [d] }
  | _ => none }
def Ipv4BackWrongFalsely : Prop := ipv4BackRow.holds Try.pinned (OpenSpec.ofChange ipv4BackWrong)

/-- 'linkboylaw06.Ipv4Turns': WHATEVER THE INPUT: true; the input reads as it did. -/
def ipv4TurnsSpec : ChangeSpec := { name := "ipv4Turns", fn := fun _ => fun
  | [d1, d2] => { results := [.lit (.bool true)], args := [d1, d2] }
  | _ => none }
def ipv4TurnsRow : OpenClaim := { program := "ytkmjpjhlkakdhaa", sum := "ba697c6b591baf2a0cd0c49dad5e8f1e8c41e86ad3d230da978a2984ad6bdc35", func := "linkboy/linkboylaw06.Ipv4Turns", spec := "ipv4Turns", inPlace := ["internal/bytealg.MakeNoZero"], apart := false }
def Ipv4TurnsSaid : Prop := ipv4TurnsRow.holds Try.pinned (OpenSpec.ofChange ipv4TurnsSpec)

/-- ITS FALSE NEIGHBOUR: 'it returns false'. Refute it at one input. -/
def ipv4TurnsWrong : ChangeSpec := { name := "ipv4Turns", fn := fun _ => fun
  | [d1, d2] => { results := [.lit (.bool false)], args := [d1, d2] }
  | _ => none }
def Ipv4TurnsWrongFalsely : Prop := ipv4TurnsRow.holds Try.pinned (OpenSpec.ofChange ipv4TurnsWrong)

/-- 'linkboylaw07.IcmpParses': WHATEVER THE INPUT: true; the input reads as it did. -/
def icmpParsesSpec : ChangeSpec := { name := "icmpParses", fn := fun _ => fun
  | [d] => { results := [.lit (.bool true)], args := [d] }
  | _ => none }
def icmpParsesRow : OpenClaim := { program := "ytkmjpjhlkakdhaa", sum := "ba697c6b591baf2a0cd0c49dad5e8f1e8c41e86ad3d230da978a2984ad6bdc35", func := "linkboy/linkboylaw07.IcmpParses", spec := "icmpParses", inPlace := ["internal/bytealg.MakeNoZero"], apart := false }
def IcmpParsesSaid : Prop := icmpParsesRow.holds Try.pinned (OpenSpec.ofChange icmpParsesSpec)

/-- ITS FALSE NEIGHBOUR: 'it returns false'. Refute it at one input. -/
def icmpParsesWrong : ChangeSpec := { name := "icmpParses", fn := fun _ => fun
  | [d] => { results := [.lit (.bool false)], args := [d] }
  | _ => none }
def IcmpParsesWrongFalsely : Prop := icmpParsesRow.holds Try.pinned (OpenSpec.ofChange icmpParsesWrong)

/-- 'linkboylaw07.IcmpPuts': WHATEVER THE INPUT: true; the input reads as it did. -/
def icmpPutsSpec : ChangeSpec := { name := "icmpPuts", fn := fun _ => fun
  | [d] => { results := [.lit (.bool true)], args := [d] }
  | _ => none }
def icmpPutsRow : OpenClaim := { program := "ytkmjpjhlkakdhaa", sum := "ba697c6b591baf2a0cd0c49dad5e8f1e8c41e86ad3d230da978a2984ad6bdc35", func := "linkboy/linkboylaw07.IcmpPuts", spec := "icmpPuts", inPlace := ["internal/bytealg.MakeNoZero"], apart := false }
def IcmpPutsSaid : Prop := icmpPutsRow.holds Try.pinned (OpenSpec.ofChange icmpPutsSpec)

/-- ITS FALSE NEIGHBOUR: 'it returns false'. Refute it at one input. -/
def icmpPutsWrong : ChangeSpec := { name := "icmpPuts", fn := fun _ => fun
  | [d] => { results := [.lit (.bool false)], args := [d] }
  | _ => none }
def IcmpPutsWrongFalsely : Prop := icmpPutsRow.holds Try.pinned (OpenSpec.ofChange icmpPutsWrong)

/-- 'linkboylaw07.IcmpEchoes': WHATEVER THE INPUT: true; the input reads as it did. -/
def icmpEchoesSpec : ChangeSpec := { name := "icmpEchoes", fn := fun _ => fun
  | [d1, d2, d3, d4] => { results := [.lit (.bool true)], args := [d1, d2, d3, d4] }
  | _ => none }
def icmpEchoesRow : OpenClaim := { program := "ytkmjpjhlkakdhaa", sum := "ba697c6b591baf2a0cd0c49dad5e8f1e8c41e86ad3d230da978a2984ad6bdc35", func := "linkboy/linkboylaw07.IcmpEchoes", spec := "icmpEchoes", inPlace := ["internal/bytealg.MakeNoZero"], apart := false }
def IcmpEchoesSaid : Prop := icmpEchoesRow.holds Try.pinned (OpenSpec.ofChange icmpEchoesSpec)

/-- ITS FALSE NEIGHBOUR: 'it returns false'. Refute it at one input. -/
def icmpEchoesWrong : ChangeSpec := { name := "icmpEchoes", fn := fun _ => fun
  | [d1, d2, d3, d4] => { results := [.lit (.bool false)], args := [d1, d2, d3, d4] }
  | _ => none }
def IcmpEchoesWrongFalsely : Prop := icmpEchoesRow.holds Try.pinned (OpenSpec.ofChange icmpEchoesWrong)

/-- 'linkboylaw07.IcmpFails': WHATEVER THE INPUT: true; the input reads as it did. -/
def icmpFailsSpec : ChangeSpec := { name := "icmpFails", fn := fun _ => fun
  | [d1, d2, d3, d4, d5] => { results := [.lit (.bool true)], args := [d1, d2, d3, d4, d5] }
  | _ => none }
def icmpFailsRow : OpenClaim := { program := "ytkmjpjhlkakdhaa", sum := "ba697c6b591baf2a0cd0c49dad5e8f1e8c41e86ad3d230da978a2984ad6bdc35", func := "linkboy/linkboylaw07.IcmpFails", spec := "icmpFails", inPlace := ["internal/bytealg.MakeNoZero"], apart := false }
def IcmpFailsSaid : Prop := icmpFailsRow.holds Try.pinned (OpenSpec.ofChange icmpFailsSpec)

/-- ITS FALSE NEIGHBOUR: 'it returns false'. Refute it at one input. -/
def icmpFailsWrong : ChangeSpec := { name := "icmpFails", fn := fun _ => fun
  | [d1, d2, d3, d4, d5] => { results := [.lit (.bool false)], args := [d1, d2, d3, d4, d5] }
  | _ => none }
def IcmpFailsWrongFalsely : Prop := icmpFailsRow.holds Try.pinned (OpenSpec.ofChange icmpFailsWrong)

/- THE SECOND FORM. 'bulk': how many values and letters a reading holds, each counted each time it is reached (what is shared counts as often as it is met; a slice's spare places count too). A statement '..UptoSaid' is the law's where the arguments, and the package variables that the reading takes, are together of bulk at most 1048576: NARROWER than '..Said'. Prove '..Said' where nothing that the law and all that it calls make is longer than what came in: it says more and counts as full. Else prove '..UptoSaid'. A law counts once. -/
mutual
def uptoBulk {H : Type} : DataW H → Nat
  | .lit (.string bytes) => bytes.length + 1
  | .lit _ => 1
  | .nil => 1
  | .ptr d => uptoBulk d + 1
  | .slice elems spare => uptoBulkAll elems + uptoBulkAll spare + 1
  | .agg parts => uptoBulkAll parts + 1
  | .iface _ d => uptoBulk d + 1
  | .map entries => uptoBulkEntries entries + 1
  | .held _ => 1
def uptoBulkAll {H : Type} : List (DataW H) → Nat
  | [] => 0
  | d :: r => uptoBulk d + uptoBulkAll r
def uptoBulkEntries {H : Type} : List (Lit × DataW H) → Nat
  | [] => 0
  | x :: r => uptoBulkEntry x + uptoBulkEntries r
def uptoBulkEntry {H : Type} : Lit × DataW H → Nat
  | (.string bytes, d) => bytes.length + uptoBulk d + 1
  | (_, d) => uptoBulk d + 1
 end
def uptoSmall : (H : Type) → List (DataW H) → Bool := fun _ ds => decide (uptoBulkAll ds ≤ 1048576)
def OpenSpec.upto (s : _root_.Go.ChangeSpec) : _root_.Go.OpenSpec := { _root_.Go.OpenSpec.ofChange s with cond := some uptoSmall }

/-- 'linkboylaw05.ArpParses', WHERE WHAT IT READS IS OF BULK AT MOST 1048576: true; the input reads as it did. -/
def arpParsesUptoRow : OpenClaim := { program := "ytkmjpjhlkakdhaa", sum := "ba697c6b591baf2a0cd0c49dad5e8f1e8c41e86ad3d230da978a2984ad6bdc35", func := "linkboy/linkboylaw05.ArpParses", spec := "arpParses", inPlace := ["internal/bytealg.MakeNoZero"], apart := false, narrowed := true }
def ArpParsesUptoSaid : Prop := arpParsesUptoRow.holds Try.pinned (OpenSpec.upto arpParsesSpec)

/-- 'linkboylaw05.ArpPuts', WHERE WHAT IT READS IS OF BULK AT MOST 1048576: true; the input reads as it did. -/
def arpPutsUptoRow : OpenClaim := { program := "ytkmjpjhlkakdhaa", sum := "ba697c6b591baf2a0cd0c49dad5e8f1e8c41e86ad3d230da978a2984ad6bdc35", func := "linkboy/linkboylaw05.ArpPuts", spec := "arpPuts", inPlace := ["internal/bytealg.MakeNoZero"], apart := false, narrowed := true }
def ArpPutsUptoSaid : Prop := arpPutsUptoRow.holds Try.pinned (OpenSpec.upto arpPutsSpec)

/-- 'linkboylaw05.ArpAsks', WHERE WHAT IT READS IS OF BULK AT MOST 1048576: true; the input reads as it did. -/
def arpAsksUptoRow : OpenClaim := { program := "ytkmjpjhlkakdhaa", sum := "ba697c6b591baf2a0cd0c49dad5e8f1e8c41e86ad3d230da978a2984ad6bdc35", func := "linkboy/linkboylaw05.ArpAsks", spec := "arpAsks", inPlace := ["internal/bytealg.MakeNoZero"], apart := false, narrowed := true }
def ArpAsksUptoSaid : Prop := arpAsksUptoRow.holds Try.pinned (OpenSpec.upto arpAsksSpec)

/-- 'linkboylaw06.Ipv4Parses', WHERE WHAT IT READS IS OF BULK AT MOST 1048576: true; the input reads as it did. -/
def ipv4ParsesUptoRow : OpenClaim := { program := "ytkmjpjhlkakdhaa", sum := "ba697c6b591baf2a0cd0c49dad5e8f1e8c41e86ad3d230da978a2984ad6bdc35", func := "linkboy/linkboylaw06.Ipv4Parses", spec := "ipv4Parses", inPlace := ["internal/bytealg.MakeNoZero"], apart := false, narrowed := true }
def Ipv4ParsesUptoSaid : Prop := ipv4ParsesUptoRow.holds Try.pinned (OpenSpec.upto ipv4ParsesSpec)

/-- 'linkboylaw06.Ipv4Puts', WHERE WHAT IT READS IS OF BULK AT MOST 1048576: true; the input reads as it did. -/
def ipv4PutsUptoRow : OpenClaim := { program := "ytkmjpjhlkakdhaa", sum := "ba697c6b591baf2a0cd0c49dad5e8f1e8c41e86ad3d230da978a2984ad6bdc35", func := "linkboy/linkboylaw06.Ipv4Puts", spec := "ipv4Puts", inPlace := ["internal/bytealg.MakeNoZero"], apart := false, narrowed := true }
def Ipv4PutsUptoSaid : Prop := ipv4PutsUptoRow.holds Try.pinned (OpenSpec.upto ipv4PutsSpec)

/-- 'linkboylaw06.Ipv4Back', WHERE WHAT IT READS IS OF BULK AT MOST 1048576: true; the input reads as it did. -/
def ipv4BackUptoRow : OpenClaim := { program := "ytkmjpjhlkakdhaa", sum := "ba697c6b591baf2a0cd0c49dad5e8f1e8c41e86ad3d230da978a2984ad6bdc35", func := "linkboy/linkboylaw06.Ipv4Back", spec := "ipv4Back", inPlace := ["internal/bytealg.MakeNoZero"], apart := false, narrowed := true }
def Ipv4BackUptoSaid : Prop := ipv4BackUptoRow.holds Try.pinned (OpenSpec.upto ipv4BackSpec)

/-- 'linkboylaw06.Ipv4Turns', WHERE WHAT IT READS IS OF BULK AT MOST 1048576: true; the input reads as it did. -/
def ipv4TurnsUptoRow : OpenClaim := { program := "ytkmjpjhlkakdhaa", sum := "ba697c6b591baf2a0cd0c49dad5e8f1e8c41e86ad3d230da978a2984ad6bdc35", func := "linkboy/linkboylaw06.Ipv4Turns", spec := "ipv4Turns", inPlace := ["internal/bytealg.MakeNoZero"], apart := false, narrowed := true }
def Ipv4TurnsUptoSaid : Prop := ipv4TurnsUptoRow.holds Try.pinned (OpenSpec.upto ipv4TurnsSpec)

/-- 'linkboylaw07.IcmpParses', WHERE WHAT IT READS IS OF BULK AT MOST 1048576: true; the input reads as it did. -/
def icmpParsesUptoRow : OpenClaim := { program := "ytkmjpjhlkakdhaa", sum := "ba697c6b591baf2a0cd0c49dad5e8f1e8c41e86ad3d230da978a2984ad6bdc35", func := "linkboy/linkboylaw07.IcmpParses", spec := "icmpParses", inPlace := ["internal/bytealg.MakeNoZero"], apart := false, narrowed := true }
def IcmpParsesUptoSaid : Prop := icmpParsesUptoRow.holds Try.pinned (OpenSpec.upto icmpParsesSpec)

/-- 'linkboylaw07.IcmpPuts', WHERE WHAT IT READS IS OF BULK AT MOST 1048576: true; the input reads as it did. -/
def icmpPutsUptoRow : OpenClaim := { program := "ytkmjpjhlkakdhaa", sum := "ba697c6b591baf2a0cd0c49dad5e8f1e8c41e86ad3d230da978a2984ad6bdc35", func := "linkboy/linkboylaw07.IcmpPuts", spec := "icmpPuts", inPlace := ["internal/bytealg.MakeNoZero"], apart := false, narrowed := true }
def IcmpPutsUptoSaid : Prop := icmpPutsUptoRow.holds Try.pinned (OpenSpec.upto icmpPutsSpec)

/-- 'linkboylaw07.IcmpEchoes', WHERE WHAT IT READS IS OF BULK AT MOST 1048576: true; the input reads as it did. -/
def icmpEchoesUptoRow : OpenClaim := { program := "ytkmjpjhlkakdhaa", sum := "ba697c6b591baf2a0cd0c49dad5e8f1e8c41e86ad3d230da978a2984ad6bdc35", func := "linkboy/linkboylaw07.IcmpEchoes", spec := "icmpEchoes", inPlace := ["internal/bytealg.MakeNoZero"], apart := false, narrowed := true }
def IcmpEchoesUptoSaid : Prop := icmpEchoesUptoRow.holds Try.pinned (OpenSpec.upto icmpEchoesSpec)

/-- 'linkboylaw07.IcmpFails', WHERE WHAT IT READS IS OF BULK AT MOST 1048576: true; the input reads as it did. -/
def icmpFailsUptoRow : OpenClaim := { program := "ytkmjpjhlkakdhaa", sum := "ba697c6b591baf2a0cd0c49dad5e8f1e8c41e86ad3d230da978a2984ad6bdc35", func := "linkboy/linkboylaw07.IcmpFails", spec := "icmpFails", inPlace := ["internal/bytealg.MakeNoZero"], apart := false, narrowed := true }
def IcmpFailsUptoSaid : Prop := icmpFailsUptoRow.holds Try.pinned (OpenSpec.upto icmpFailsSpec)

end Rows
end Go.Proofs.Ytkmjpjhlkakdhaa
