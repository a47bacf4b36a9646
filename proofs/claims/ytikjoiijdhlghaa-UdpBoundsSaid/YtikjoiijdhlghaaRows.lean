/-
  No cell of these rows narrows 'for every input' (looked for: loops, veiled, ifaces, maps, wideKeys, modest, calm, conditions, laid).
  DERIVED. THE GIVEN ROWS OF THIS SEAT. 12 by the template 'for every input the law returns true; each argument reads behind the call as it read before'; 0 by the template 'total and deterministic' (their statements: YtikjoiijdhlghaaTotals.lean).
  GIVEN WITH THE SEED: the statements are not yours to turn. If you find one false, say at which input.
  Laid BY PROGRAM, IN A SANDBOX (cutbox-rows.mjs): the forced cells as the released guide's own fill.sh prints them over the translation dc2e419b87904faa… (all of the seat's roots in one cut). By AI agents, Wed Nov 11 2026. No macro, syntax, notation, axiom, sorry.
-/
import Derived.Test.YtikjoiijdhlghaaChecked
import GoSem.Claim
import GoSem.ClaimJoined
import GoSem.ClaimMapViews
import Derived.JoinedTies
import Derived.KernelRfl
namespace Go.Proofs.Ytikjoiijdhlghaa
/- THE CELL 'sum', in the pinned program and in every row, IS THE sha256 OF THE DUMP (.gsa) THAT YtikjoiijdhlghaaProg.lean LOADS. Nothing in Lean hashes anything: it is a label: what it is worth is what the hold of that sum in a sandbox is worth. -/
noncomputable def Try.pinned : Pinned := { name := "ytikjoiijdhlghaa", sum := "dc2e419b87904faaa9b64acd57be0d117b10b6519a58173d6c5a8ba7e22bdc50", checked := Try.checked }
namespace Rows
def none {H : Type} : Left H := { results := [], args := [] }

/-- 'linkboylaw05.ArpParses': WHATEVER THE INPUT: true; the input reads as it did. -/
def arpParsesSpec : ChangeSpec := { name := "arpParses", fn := fun _ => fun
  | [d] => { results := [.lit (.bool true)], args := [d] }
  | _ => none }
def arpParsesRow : OpenClaim := { program := "ytikjoiijdhlghaa", sum := "dc2e419b87904faaa9b64acd57be0d117b10b6519a58173d6c5a8ba7e22bdc50", func := "linkboy/linkboylaw05.ArpParses", spec := "arpParses", inPlace := ["internal/bytealg.MakeNoZero"], apart := false }
def ArpParsesSaid : Prop := arpParsesRow.holds Try.pinned (OpenSpec.ofChange arpParsesSpec)

/-- ITS FALSE NEIGHBOUR: 'it returns false'. Refute it at one input. -/
def arpParsesWrong : ChangeSpec := { name := "arpParses", fn := fun _ => fun
  | [d] => { results := [.lit (.bool false)], args := [d] }
  | _ => none }
def ArpParsesWrongFalsely : Prop := arpParsesRow.holds Try.pinned (OpenSpec.ofChange arpParsesWrong)

/-- 'linkboylaw05.ArpPuts': WHATEVER THE INPUT: true; the input reads as it did. -/
def arpPutsSpec : ChangeSpec := { name := "arpPuts", fn := fun _ => fun
  | [d1, d2] => { results := [.lit (.bool true)], args := [d1, d2] }
  | _ => none }
def arpPutsRow : OpenClaim := { program := "ytikjoiijdhlghaa", sum := "dc2e419b87904faaa9b64acd57be0d117b10b6519a58173d6c5a8ba7e22bdc50", func := "linkboy/linkboylaw05.ArpPuts", spec := "arpPuts", inPlace := ["internal/bytealg.MakeNoZero"], apart := false }
def ArpPutsSaid : Prop := arpPutsRow.holds Try.pinned (OpenSpec.ofChange arpPutsSpec)

/-- ITS FALSE NEIGHBOUR: 'it returns false'. Refute it at one input. -/
def arpPutsWrong : ChangeSpec := { name := "arpPuts", fn := fun _ => fun
  | [d1, d2] => { results := [.lit (.bool false)], args := [d1, d2] }
  | _ => none }
def ArpPutsWrongFalsely : Prop := arpPutsRow.holds Try.pinned (OpenSpec.ofChange arpPutsWrong)

/-- 'linkboylaw05.ArpAsks': WHATEVER THE INPUT: true; the input reads as it did. -/
def arpAsksSpec : ChangeSpec := { name := "arpAsks", fn := fun _ => fun
  | [d1, d2, d3, d4, d5] => { results := [.lit (.bool true)], args := [d1, d2, d3, d4, d5] }
  | _ => none }
def arpAsksRow : OpenClaim := { program := "ytikjoiijdhlghaa", sum := "dc2e419b87904faaa9b64acd57be0d117b10b6519a58173d6c5a8ba7e22bdc50", func := "linkboy/linkboylaw05.ArpAsks", spec := "arpAsks", inPlace := ["internal/bytealg.MakeNoZero"], apart := false }
def ArpAsksSaid : Prop := arpAsksRow.holds Try.pinned (OpenSpec.ofChange arpAsksSpec)

/-- ITS FALSE NEIGHBOUR: 'it returns false'. Refute it at one input. -/
def arpAsksWrong : ChangeSpec := { name := "arpAsks", fn := fun _ => fun
  | [d1, d2, d3, d4, d5] => { results := [.lit (.bool false)], args := [d1, d2, d3, d4, d5] }
  | _ => none }
def ArpAsksWrongFalsely : Prop := arpAsksRow.holds Try.pinned (OpenSpec.ofChange arpAsksWrong)

/-- 'linkboylaw08.UdpHeads': WHATEVER THE INPUT: true; the input reads as it did. -/
def udpHeadsSpec : ChangeSpec := { name := "udpHeads", fn := fun _ => fun
  | [d1, d2, d3, d4] => { results := [.lit (.bool true)], args := [d1, d2, d3, d4] }
  | _ => none }
def udpHeadsRow : OpenClaim := { program := "ytikjoiijdhlghaa", sum := "dc2e419b87904faaa9b64acd57be0d117b10b6519a58173d6c5a8ba7e22bdc50", func := "linkboy/linkboylaw08.UdpHeads", spec := "udpHeads", inPlace := ["internal/bytealg.MakeNoZero"], apart := false }
def UdpHeadsSaid : Prop := udpHeadsRow.holds Try.pinned (OpenSpec.ofChange udpHeadsSpec)

/-- ITS FALSE NEIGHBOUR: 'it returns false'. Refute it at one input. -/
def udpHeadsWrong : ChangeSpec := { name := "udpHeads", fn := fun _ => fun
  | [d1, d2, d3, d4] => { results := [.lit (.bool false)], args := [d1, d2, d3, d4] }
  | _ => none }
def UdpHeadsWrongFalsely : Prop := udpHeadsRow.holds Try.pinned (OpenSpec.ofChange udpHeadsWrong)

/-- 'linkboylaw08.UdpParses': WHATEVER THE INPUT: true; the input reads as it did. -/
def udpParsesSpec : ChangeSpec := { name := "udpParses", fn := fun _ => fun
  | [d1, d2, d3] => { results := [.lit (.bool true)], args := [d1, d2, d3] }
  | _ => none }
def udpParsesRow : OpenClaim := { program := "ytikjoiijdhlghaa", sum := "dc2e419b87904faaa9b64acd57be0d117b10b6519a58173d6c5a8ba7e22bdc50", func := "linkboy/linkboylaw08.UdpParses", spec := "udpParses", inPlace := ["internal/bytealg.MakeNoZero"], apart := false }
def UdpParsesSaid : Prop := udpParsesRow.holds Try.pinned (OpenSpec.ofChange udpParsesSpec)

/-- ITS FALSE NEIGHBOUR: 'it returns false'. Refute it at one input. -/
def udpParsesWrong : ChangeSpec := { name := "udpParses", fn := fun _ => fun
  | [d1, d2, d3] => { results := [.lit (.bool false)], args := [d1, d2, d3] }
  | _ => none }
def UdpParsesWrongFalsely : Prop := udpParsesRow.holds Try.pinned (OpenSpec.ofChange udpParsesWrong)

/-- 'linkboylaw08.UdpPuts': WHATEVER THE INPUT: true; the input reads as it did. -/
def udpPutsSpec : ChangeSpec := { name := "udpPuts", fn := fun _ => fun
  | [d1, d2, d3, d4] => { results := [.lit (.bool true)], args := [d1, d2, d3, d4] }
  | _ => none }
def udpPutsRow : OpenClaim := { program := "ytikjoiijdhlghaa", sum := "dc2e419b87904faaa9b64acd57be0d117b10b6519a58173d6c5a8ba7e22bdc50", func := "linkboy/linkboylaw08.UdpPuts", spec := "udpPuts", inPlace := ["internal/bytealg.MakeNoZero"], apart := false }
def UdpPutsSaid : Prop := udpPutsRow.holds Try.pinned (OpenSpec.ofChange udpPutsSpec)

/-- ITS FALSE NEIGHBOUR: 'it returns false'. Refute it at one input. -/
def udpPutsWrong : ChangeSpec := { name := "udpPuts", fn := fun _ => fun
  | [d1, d2, d3, d4] => { results := [.lit (.bool false)], args := [d1, d2, d3, d4] }
  | _ => none }
def UdpPutsWrongFalsely : Prop := udpPutsRow.holds Try.pinned (OpenSpec.ofChange udpPutsWrong)

/-- 'linkboylaw08.UdpBounds': WHATEVER THE INPUT: true; the input reads as it did. -/
def udpBoundsSpec : ChangeSpec := { name := "udpBounds", fn := fun _ => fun
  | [d] => { results := [.lit (.bool true)], args := [d] }
  | _ => none }
def udpBoundsRow : OpenClaim := { program := "ytikjoiijdhlghaa", sum := "dc2e419b87904faaa9b64acd57be0d117b10b6519a58173d6c5a8ba7e22bdc50", func := "linkboy/linkboylaw08.UdpBounds", spec := "udpBounds", inPlace := ["internal/bytealg.MakeNoZero"], apart := false }
def UdpBoundsSaid : Prop := udpBoundsRow.holds Try.pinned (OpenSpec.ofChange udpBoundsSpec)

/-- ITS FALSE NEIGHBOUR: 'it returns false'. Refute it at one input. -/
def udpBoundsWrong : ChangeSpec := { name := "udpBounds", fn := fun _ => fun
  | [d] => { results := [.lit (.bool false)], args := [d] }
  | _ => none }
def UdpBoundsWrongFalsely : Prop := udpBoundsRow.holds Try.pinned (OpenSpec.ofChange udpBoundsWrong)

/-- 'linkboylaw13.SipSums': WHATEVER THE INPUT: true; the input reads as it did. -/
def sipSumsSpec : ChangeSpec := { name := "sipSums", fn := fun _ => fun
  | [d1, d2, d3] => { results := [.lit (.bool true)], args := [d1, d2, d3] }
  | _ => none }
def sipSumsRow : OpenClaim := { program := "ytikjoiijdhlghaa", sum := "dc2e419b87904faaa9b64acd57be0d117b10b6519a58173d6c5a8ba7e22bdc50", func := "linkboy/linkboylaw13.SipSums", spec := "sipSums", apart := false }
def SipSumsSaid : Prop := sipSumsRow.holds Try.pinned (OpenSpec.ofChange sipSumsSpec)

/-- ITS FALSE NEIGHBOUR: 'it returns false'. Refute it at one input. -/
def sipSumsWrong : ChangeSpec := { name := "sipSums", fn := fun _ => fun
  | [d1, d2, d3] => { results := [.lit (.bool false)], args := [d1, d2, d3] }
  | _ => none }
def SipSumsWrongFalsely : Prop := sipSumsRow.holds Try.pinned (OpenSpec.ofChange sipSumsWrong)

/-- 'linkboylaw13.SipParts': WHATEVER THE INPUT: true; the input reads as it did. -/
def sipPartsSpec : ChangeSpec := { name := "sipParts", fn := fun _ => fun
  | [d1, d2, d3] => { results := [.lit (.bool true)], args := [d1, d2, d3] }
  | _ => none }
def sipPartsRow : OpenClaim := { program := "ytikjoiijdhlghaa", sum := "dc2e419b87904faaa9b64acd57be0d117b10b6519a58173d6c5a8ba7e22bdc50", func := "linkboy/linkboylaw13.SipParts", spec := "sipParts", apart := false }
def SipPartsSaid : Prop := sipPartsRow.holds Try.pinned (OpenSpec.ofChange sipPartsSpec)

/-- ITS FALSE NEIGHBOUR: 'it returns false'. Refute it at one input. -/
def sipPartsWrong : ChangeSpec := { name := "sipParts", fn := fun _ => fun
  | [d1, d2, d3] => { results := [.lit (.bool false)], args := [d1, d2, d3] }
  | _ => none }
def SipPartsWrongFalsely : Prop := sipPartsRow.holds Try.pinned (OpenSpec.ofChange sipPartsWrong)

/-- 'linkboylaw18.PermOnce': WHATEVER THE INPUT: true; the input reads as it did. -/
def permOnceSpec : ChangeSpec := { name := "permOnce", fn := fun _ => fun
  | [d1, d2, d3] => { results := [.lit (.bool true)], args := [d1, d2, d3] }
  | _ => none }
def permOnceRow : OpenClaim := { program := "ytikjoiijdhlghaa", sum := "dc2e419b87904faaa9b64acd57be0d117b10b6519a58173d6c5a8ba7e22bdc50", func := "linkboy/linkboylaw18.PermOnce", spec := "permOnce", apart := false }
def PermOnceSaid : Prop := permOnceRow.holds Try.pinned (OpenSpec.ofChange permOnceSpec)

/-- ITS FALSE NEIGHBOUR: 'it returns false'. Refute it at one input. -/
def permOnceWrong : ChangeSpec := { name := "permOnce", fn := fun _ => fun
  | [d1, d2, d3] => { results := [.lit (.bool false)], args := [d1, d2, d3] }
  | _ => none }
def PermOnceWrongFalsely : Prop := permOnceRow.holds Try.pinned (OpenSpec.ofChange permOnceWrong)

/-- 'linkboylaw25.RouteRight': WHATEVER THE INPUT: true; the input reads as it did. -/
def routeRightSpec : ChangeSpec := { name := "routeRight", fn := fun _ => fun
  | [d] => { results := [.lit (.bool true)], args := [d] }
  | _ => none }
def routeRightRow : OpenClaim := { program := "ytikjoiijdhlghaa", sum := "dc2e419b87904faaa9b64acd57be0d117b10b6519a58173d6c5a8ba7e22bdc50", func := "linkboy/linkboylaw25.RouteRight", spec := "routeRight", apart := false }
def RouteRightSaid : Prop := routeRightRow.holds Try.pinned (OpenSpec.ofChange routeRightSpec)

/-- ITS FALSE NEIGHBOUR: 'it returns false'. Refute it at one input. -/
def routeRightWrong : ChangeSpec := { name := "routeRight", fn := fun _ => fun
  | [d] => { results := [.lit (.bool false)], args := [d] }
  | _ => none }
def RouteRightWrongFalsely : Prop := routeRightRow.holds Try.pinned (OpenSpec.ofChange routeRightWrong)

/-- 'linkboylaw25.RouteAlways': WHATEVER THE INPUT: true; the input reads as it did. -/
def routeAlwaysSpec : ChangeSpec := { name := "routeAlways", fn := fun _ => fun
  | [d1, d2] => { results := [.lit (.bool true)], args := [d1, d2] }
  | _ => none }
def routeAlwaysRow : OpenClaim := { program := "ytikjoiijdhlghaa", sum := "dc2e419b87904faaa9b64acd57be0d117b10b6519a58173d6c5a8ba7e22bdc50", func := "linkboy/linkboylaw25.RouteAlways", spec := "routeAlways", apart := false }
def RouteAlwaysSaid : Prop := routeAlwaysRow.holds Try.pinned (OpenSpec.ofChange routeAlwaysSpec)

/-- ITS FALSE NEIGHBOUR: 'it returns false'. Refute it at one input. -/
def routeAlwaysWrong : ChangeSpec := { name := "routeAlways", fn := fun _ => fun
  | [d1, d2] => { results := [.lit (.bool false)], args := [d1, d2] }
  | _ => none }
def RouteAlwaysWrongFalsely : Prop := routeAlwaysRow.holds Try.pinned (OpenSpec.ofChange routeAlwaysWrong)

/- THE SECOND FORM. 'bulk': how many values and letters a reading holds, each counted each time it is reached (what is shared counts as often as it is met; a slice's spare places count too). A statement '..UptoSaid' is the law's where the arguments, and the package variables that the reading takes, are together of bulk at most 1048576: NARROWER than '..Said'. Prove '..Said' where nothing that the law and all that it calls make is longer than what came in: it says more and counts as full. Else prove '..UptoSaid'. A law counts once. -/
mutual
def uptoBulk {H : Type} : DataW H → Nat
  | .lit (.string bytes) => bytes.length + 1
  | .lit _ => 1
  | .nil => 1
  | .ptr d => uptoBulk d + 1
  | .slice elems spare => uptoBulkAll elems + uptoBulkAll spare + 1
  | .agg parts => uptoBulkAll parts + 1
  | .iface _ d => uptoBulk d + 1
  | .map entries => uptoBulkEntries entries + 1
  | .held _ => 1
def uptoBulkAll {H : Type} : List (DataW H) → Nat
  | [] => 0
  | d :: r => uptoBulk d + uptoBulkAll r
def uptoBulkEntries {H : Type} : List (Lit × DataW H) → Nat
  | [] => 0
  | x :: r => uptoBulkEntry x + uptoBulkEntries r
def uptoBulkEntry {H : Type} : Lit × DataW H → Nat
  | (.string bytes, d) => bytes.length + uptoBulk d + 1
  | (_, d) => uptoBulk d + 1
 end
def uptoSmall : (H : Type) → List (DataW H) → Bool := fun _ ds => decide (uptoBulkAll ds ≤ 1048576)
def OpenSpec.upto (s : _root_.Go.ChangeSpec) : _root_.Go.OpenSpec := { _root_.Go.OpenSpec.ofChange s with cond := some uptoSmall }

/-- 'linkboylaw05.ArpParses', WHERE WHAT IT READS IS OF BULK AT MOST 1048576: true; the input reads as it did. -/
def arpParsesUptoRow : OpenClaim := { program := "ytikjoiijdhlghaa", sum := "dc2e419b87904faaa9b64acd57be0d117b10b6519a58173d6c5a8ba7e22bdc50", func := "linkboy/linkboylaw05.ArpParses", spec := "arpParses", inPlace := ["internal/bytealg.MakeNoZero"], apart := false, narrowed := true }
def ArpParsesUptoSaid : Prop := arpParsesUptoRow.holds Try.pinned (OpenSpec.upto arpParsesSpec)

/-- 'linkboylaw05.ArpPuts', WHERE WHAT IT READS IS OF BULK AT MOST 1048576: true; the input reads as it did. -/
def arpPutsUptoRow : OpenClaim := { program := "ytikjoiijdhlghaa", sum := "dc2e419b87904faaa9b64acd57be0d117b10b6519a58173d6c5a8ba7e22bdc50", func := "linkboy/linkboylaw05.ArpPuts", spec := "arpPuts", inPlace := ["internal/bytealg.MakeNoZero"], apart := false, narrowed := true }
def ArpPutsUptoSaid : Prop := arpPutsUptoRow.holds Try.pinned (OpenSpec.upto arpPutsSpec)

/-- 'linkboylaw05.ArpAsks', WHERE WHAT IT READS IS OF BULK AT MOST 1048576: true; the input reads as it did. -/
def arpAsksUptoRow : OpenClaim := { program := "ytikjoiijdhlghaa", sum := "dc2e419b87904faaa9b64acd57be0d117b10b6519a58173d6c5a8ba7e22bdc50", func := "linkboy/linkboylaw05.ArpAsks", spec := "arpAsks", inPlace := ["internal/bytealg.MakeNoZero"], apart := false, narrowed := true }
def ArpAsksUptoSaid : Prop := arpAsksUptoRow.holds Try.pinned (OpenSpec.upto arpAsksSpec)

/-- 'linkboylaw08.UdpHeads', WHERE WHAT IT READS IS OF BULK AT MOST 1048576: true; the input reads as it did. -/
def udpHeadsUptoRow : OpenClaim := { program := "ytikjoiijdhlghaa", sum := "dc2e419b87904faaa9b64acd57be0d117b10b6519a58173d6c5a8ba7e22bdc50", func := "linkboy/linkboylaw08.UdpHeads", spec := "udpHeads", inPlace := ["internal/bytealg.MakeNoZero"], apart := false, narrowed := true }
def UdpHeadsUptoSaid : Prop := udpHeadsUptoRow.holds Try.pinned (OpenSpec.upto udpHeadsSpec)

/-- 'linkboylaw08.UdpParses', WHERE WHAT IT READS IS OF BULK AT MOST 1048576: true; the input reads as it did. -/
def udpParsesUptoRow : OpenClaim := { program := "ytikjoiijdhlghaa", sum := "dc2e419b87904faaa9b64acd57be0d117b10b6519a58173d6c5a8ba7e22bdc50", func := "linkboy/linkboylaw08.UdpParses", spec := "udpParses", inPlace := ["internal/bytealg.MakeNoZero"], apart := false, narrowed := true }
def UdpParsesUptoSaid : Prop := udpParsesUptoRow.holds Try.pinned (OpenSpec.upto udpParsesSpec)

/-- 'linkboylaw08.UdpPuts', WHERE WHAT IT READS IS OF BULK AT MOST 1048576: true; the input reads as it did. -/
def udpPutsUptoRow : OpenClaim := { program := "ytikjoiijdhlghaa", sum := "dc2e419b87904faaa9b64acd57be0d117b10b6519a58173d6c5a8ba7e22bdc50", func := "linkboy/linkboylaw08.UdpPuts", spec := "udpPuts", inPlace := ["internal/bytealg.MakeNoZero"], apart := false, narrowed := true }
def UdpPutsUptoSaid : Prop := udpPutsUptoRow.holds Try.pinned (OpenSpec.upto udpPutsSpec)

/-- 'linkboylaw08.UdpBounds', WHERE WHAT IT READS IS OF BULK AT MOST 1048576: true; the input reads as it did. -/
def udpBoundsUptoRow : OpenClaim := { program := "ytikjoiijdhlghaa", sum := "dc2e419b87904faaa9b64acd57be0d117b10b6519a58173d6c5a8ba7e22bdc50", func := "linkboy/linkboylaw08.UdpBounds", spec := "udpBounds", inPlace := ["internal/bytealg.MakeNoZero"], apart := false, narrowed := true }
def UdpBoundsUptoSaid : Prop := udpBoundsUptoRow.holds Try.pinned (OpenSpec.upto udpBoundsSpec)

/-- 'linkboylaw13.SipSums', WHERE WHAT IT READS IS OF BULK AT MOST 1048576: true; the input reads as it did. -/
def sipSumsUptoRow : OpenClaim := { program := "ytikjoiijdhlghaa", sum := "dc2e419b87904faaa9b64acd57be0d117b10b6519a58173d6c5a8ba7e22bdc50", func := "linkboy/linkboylaw13.SipSums", spec := "sipSums", apart := false, narrowed := true }
def SipSumsUptoSaid : Prop := sipSumsUptoRow.holds Try.pinned (OpenSpec.upto sipSumsSpec)

/-- 'linkboylaw13.SipParts', WHERE WHAT IT READS IS OF BULK AT MOST 1048576: true; the input reads as it did. -/
def sipPartsUptoRow : OpenClaim := { program := "ytikjoiijdhlghaa", sum := "dc2e419b87904faaa9b64acd57be0d117b10b6519a58173d6c5a8ba7e22bdc50", func := "linkboy/linkboylaw13.SipParts", spec := "sipParts", apart := false, narrowed := true }
def SipPartsUptoSaid : Prop := sipPartsUptoRow.holds Try.pinned (OpenSpec.upto sipPartsSpec)

/-- 'linkboylaw18.PermOnce', WHERE WHAT IT READS IS OF BULK AT MOST 1048576: true; the input reads as it did. -/
def permOnceUptoRow : OpenClaim := { program := "ytikjoiijdhlghaa", sum := "dc2e419b87904faaa9b64acd57be0d117b10b6519a58173d6c5a8ba7e22bdc50", func := "linkboy/linkboylaw18.PermOnce", spec := "permOnce", apart := false, narrowed := true }
def PermOnceUptoSaid : Prop := permOnceUptoRow.holds Try.pinned (OpenSpec.upto permOnceSpec)

/-- 'linkboylaw25.RouteRight', WHERE WHAT IT READS IS OF BULK AT MOST 1048576: true; the input reads as it did. -/
def routeRightUptoRow : OpenClaim := { program := "ytikjoiijdhlghaa", sum := "dc2e419b87904faaa9b64acd57be0d117b10b6519a58173d6c5a8ba7e22bdc50", func := "linkboy/linkboylaw25.RouteRight", spec := "routeRight", apart := false, narrowed := true }
def RouteRightUptoSaid : Prop := routeRightUptoRow.holds Try.pinned (OpenSpec.upto routeRightSpec)

/-- 'linkboylaw25.RouteAlways', WHERE WHAT IT READS IS OF BULK AT MOST 1048576: true; the input reads as it did. -/
def routeAlwaysUptoRow : OpenClaim := { program := "ytikjoiijdhlghaa", sum := "dc2e419b87904faaa9b64acd57be0d117b10b6519a58173d6c5a8ba7e22bdc50", func := "linkboy/linkboylaw25.RouteAlways", spec := "routeAlways", apart := false, narrowed := true }
def RouteAlwaysUptoSaid : Prop := routeAlwaysUptoRow.holds Try.pinned (OpenSpec.upto routeAlwaysSpec)

end Rows
end Go.Proofs.Ytikjoiijdhlghaa
