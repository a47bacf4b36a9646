/-
  No cell of these rows narrows 'for every input' (looked for: loops, veiled, ifaces, maps, wideKeys, modest, calm, conditions, laid).
  DERIVED. THE GIVEN ROWS OF THIS SEAT. 7 by the template 'for every input the law returns true; each argument reads behind the call as it read before'; 0 by the template 'total and deterministic' (their statements: YtkoamiefombilaaTotals.lean).
  GIVEN WITH THE SEED: the statements are not yours to turn. If you find one false, say at which input.
  Laid BY PROGRAM, IN A SANDBOX (cutbox-rows.mjs): the forced cells as the released guide's own fill.sh prints them over the translation d22b841ae458bd70… (all of the seat's roots in one cut). By AI agents, Wed Nov 11 2026. No macro, syntax, notation, axiom, sorry.
-/
import Derived.Test.YtkoamiefombilaaChecked
import GoSem.Claim
import GoSem.ClaimJoined
import GoSem.ClaimMapViews
import Derived.JoinedTies
import Derived.KernelRfl
namespace Go.Proofs.Ytkoamiefombilaa
/- THE CELL 'sum', in the pinned program and in every row, IS THE sha256 OF THE DUMP (.gsa) THAT YtkoamiefombilaaProg.lean LOADS. Nothing in Lean hashes anything: it is a label: what it is worth is what the hold of that sum in a sandbox is worth. -/
noncomputable def Try.pinned : Pinned := { name := "ytkoamiefombilaa", sum := "d22b841ae458bd702827a5444c0aefff2a8277de9f9293b8a54616f96a014b6f", checked := Try.checked }
namespace Rows
def none {H : Type} : Left H := { results := [], args := [] }

/-- 'linkboylaw12.QuoteOf': WHATEVER THE INPUT: true; the input reads as it did. -/
def quoteOfSpec : ChangeSpec := { name := "quoteOf", fn := fun _ => fun
  | [d] => { results := [.lit (.bool true)], args := [d] }
  | _ => none }
def quoteOfRow : OpenClaim := { program := "ytkoamiefombilaa", sum := "d22b841ae458bd702827a5444c0aefff2a8277de9f9293b8a54616f96a014b6f", func := "linkboy/linkboylaw12.QuoteOf", spec := "quoteOf", inPlace := ["internal/bytealg.MakeNoZero"], apart := false }
def QuoteOfSaid : Prop := quoteOfRow.holds Try.pinned (OpenSpec.ofChange quoteOfSpec)

/-- ITS FALSE NEIGHBOUR: 'it returns false'. Refute it at one input. -/
def quoteOfWrong : ChangeSpec := { name := "quoteOf", fn := fun _ => fun
  | [d] => { results := [.lit (.bool false)], args := [d] }
  | _ => none }
def QuoteOfWrongFalsely : Prop := quoteOfRow.holds Try.pinned (OpenSpec.ofChange quoteOfWrong)

/-- 'linkboylaw12.QuoteFailed': WHATEVER THE INPUT: true; the input reads as it did. -/
def quoteFailedSpec : ChangeSpec := { name := "quoteFailed", fn := fun _ => fun
  | [d1, d2] => { results := [.lit (.bool true)], args := [d1, d2] }
  | _ => none }
def quoteFailedRow : OpenClaim := { program := "ytkoamiefombilaa", sum := "d22b841ae458bd702827a5444c0aefff2a8277de9f9293b8a54616f96a014b6f", func := "linkboy/linkboylaw12.QuoteFailed", spec := "quoteFailed", inPlace := ["internal/bytealg.MakeNoZero"], apart := false }
def QuoteFailedSaid : Prop := quoteFailedRow.holds Try.pinned (OpenSpec.ofChange quoteFailedSpec)

/-- ITS FALSE NEIGHBOUR: 'it returns false'. Refute it at one input. -/
def quoteFailedWrong : ChangeSpec := { name := "quoteFailed", fn := fun _ => fun
  | [d1, d2] => { results := [.lit (.bool false)], args := [d1, d2] }
  | _ => none }
def QuoteFailedWrongFalsely : Prop := quoteFailedRow.holds Try.pinned (OpenSpec.ofChange quoteFailedWrong)

/-- 'linkboylaw26.RecvBody': WHATEVER THE INPUT: true; the input reads as it did. -/
def recvBodySpec : ChangeSpec := { name := "recvBody", fn := fun _ => fun
  | [d] => { results := [.lit (.bool true)], args := [d] }
  | _ => none }
def recvBodyRow : OpenClaim := { program := "ytkoamiefombilaa", sum := "d22b841ae458bd702827a5444c0aefff2a8277de9f9293b8a54616f96a014b6f", func := "linkboy/linkboylaw26.RecvBody", spec := "recvBody", inPlace := ["internal/bytealg.MakeNoZero"], apart := false }
def RecvBodySaid : Prop := recvBodyRow.holds Try.pinned (OpenSpec.ofChange recvBodySpec)

/-- ITS FALSE NEIGHBOUR: 'it returns false'. Refute it at one input. -/
def recvBodyWrong : ChangeSpec := { name := "recvBody", fn := fun _ => fun
  | [d] => { results := [.lit (.bool false)], args := [d] }
  | _ => none }
def RecvBodyWrongFalsely : Prop := recvBodyRow.holds Try.pinned (OpenSpec.ofChange recvBodyWrong)

/-- 'linkboylaw26.RecvKinds': WHATEVER THE INPUT: true; the input reads as it did. -/
def recvKindsSpec : ChangeSpec := { name := "recvKinds", fn := fun _ => fun
  | [d1, d2, d3, d4, d5, d6] => { results := [.lit (.bool true)], args := [d1, d2, d3, d4, d5, d6] }
  | _ => none }
def recvKindsRow : OpenClaim := { program := "ytkoamiefombilaa", sum := "d22b841ae458bd702827a5444c0aefff2a8277de9f9293b8a54616f96a014b6f", func := "linkboy/linkboylaw26.RecvKinds", spec := "recvKinds", inPlace := ["internal/bytealg.MakeNoZero"], apart := false }
def RecvKindsSaid : Prop := recvKindsRow.holds Try.pinned (OpenSpec.ofChange recvKindsSpec)

/-- ITS FALSE NEIGHBOUR: 'it returns false'. Refute it at one input. -/
def recvKindsWrong : ChangeSpec := { name := "recvKinds", fn := fun _ => fun
  | [d1, d2, d3, d4, d5, d6] => { results := [.lit (.bool false)], args := [d1, d2, d3, d4, d5, d6] }
  | _ => none }
def RecvKindsWrongFalsely : Prop := recvKindsRow.holds Try.pinned (OpenSpec.ofChange recvKindsWrong)

/-- 'linkboylaw29.TunWraps': WHATEVER THE INPUT: true; the input reads as it did. -/
def tunWrapsSpec : ChangeSpec := { name := "tunWraps", fn := fun _ => fun
  | [d1, d2, d3, d4, d5] => { results := [.lit (.bool true)], args := [d1, d2, d3, d4, d5] }
  | _ => none }
def tunWrapsRow : OpenClaim := { program := "ytkoamiefombilaa", sum := "d22b841ae458bd702827a5444c0aefff2a8277de9f9293b8a54616f96a014b6f", func := "linkboy/linkboylaw29.TunWraps", spec := "tunWraps", inPlace := ["internal/bytealg.MakeNoZero"], apart := false }
def TunWrapsSaid : Prop := tunWrapsRow.holds Try.pinned (OpenSpec.ofChange tunWrapsSpec)

/-- ITS FALSE NEIGHBOUR: 'it returns false'. Refute it at one input. -/
def tunWrapsWrong : ChangeSpec := { name := "tunWraps", fn := fun _ => fun
  | [d1, d2, d3, d4, d5] => { results := [.lit (.bool false)], args := [d1, d2, d3, d4, d5] }
  | _ => none }
def TunWrapsWrongFalsely : Prop := tunWrapsRow.holds Try.pinned (OpenSpec.ofChange tunWrapsWrong)

/-- 'linkboylaw29.TunBack': WHATEVER THE INPUT: true; the input reads as it did. -/
def tunBackSpec : ChangeSpec := { name := "tunBack", fn := fun _ => fun
  | [d1, d2, d3, d4, d5] => { results := [.lit (.bool true)], args := [d1, d2, d3, d4, d5] }
  | _ => none }
def tunBackRow : OpenClaim := { program := "ytkoamiefombilaa", sum := "d22b841ae458bd702827a5444c0aefff2a8277de9f9293b8a54616f96a014b6f", func := "linkboy/linkboylaw29.TunBack", spec := "tunBack", inPlace := ["internal/bytealg.MakeNoZero"], apart := false }
def TunBackSaid : Prop := tunBackRow.holds Try.pinned (OpenSpec.ofChange tunBackSpec)

/-- ITS FALSE NEIGHBOUR: 'it returns false'. Refute it at one input. -/
def tunBackWrong : ChangeSpec := { name := "tunBack", fn := fun _ => fun
  | [d1, d2, d3, d4, d5] => { results := [.lit (.bool false)], args := [d1, d2, d3, d4, d5] }
  | _ => none }
def TunBackWrongFalsely : Prop := tunBackRow.holds Try.pinned (OpenSpec.ofChange tunBackWrong)

/-- 'linkboylaw29.TunBounds': WHATEVER THE INPUT: true; the input reads as it did. -/
def tunBoundsSpec : ChangeSpec := { name := "tunBounds", fn := fun _ => fun
  | [d1, d2] => { results := [.lit (.bool true)], args := [d1, d2] }
  | _ => none }
def tunBoundsRow : OpenClaim := { program := "ytkoamiefombilaa", sum := "d22b841ae458bd702827a5444c0aefff2a8277de9f9293b8a54616f96a014b6f", func := "linkboy/linkboylaw29.TunBounds", spec := "tunBounds", inPlace := ["internal/bytealg.MakeNoZero"], apart := false }
def TunBoundsSaid : Prop := tunBoundsRow.holds Try.pinned (OpenSpec.ofChange tunBoundsSpec)

/-- ITS FALSE NEIGHBOUR: 'it returns false'. Refute it at one input. -/
def tunBoundsWrong : ChangeSpec := { name := "tunBounds", fn := fun _ => fun
  | [d1, d2] => { results := [.lit (.bool false)], args := [d1, d2] }
  | _ => none }
def TunBoundsWrongFalsely : Prop := tunBoundsRow.holds Try.pinned (OpenSpec.ofChange tunBoundsWrong)

/- THE SECOND FORM. 'bulk': how many values and letters a reading holds, each counted each time it is reached (what is shared counts as often as it is met; a slice's spare places count too). A statement '..UptoSaid' is the law's where the arguments, and the package variables that the reading takes, are together of bulk at most 1048576: NARROWER than '..Said'. Prove '..Said' where nothing that the law and all that it calls make is longer than what came in: it says more and counts as full. Else prove '..UptoSaid'. A law counts once. -/
mutual
def uptoBulk {H : Type} : DataW H → Nat
  | .lit (.string bytes) => bytes.length + 1
  | .lit _ => 1
  | .nil => 1
  | .ptr d => uptoBulk d + 1
  | .slice elems spare => uptoBulkAll elems + uptoBulkAll spare + 1
  | .agg parts => uptoBulkAll parts + 1
  | .iface _ d => uptoBulk d + 1
  | .map entries => uptoBulkEntries entries + 1
  | .held _ => 1
def uptoBulkAll {H : Type} : List (DataW H) → Nat
  | [] => 0
  | d :: r => uptoBulk d + uptoBulkAll r
def uptoBulkEntries {H : Type} : List (Lit × DataW H) → Nat
  | [] => 0
  | x :: r => uptoBulkEntry x + uptoBulkEntries r
def uptoBulkEntry {H : Type} : Lit × DataW H → Nat
  | (.string bytes, d) => bytes.length + uptoBulk d + 1
  | (_, d) => uptoBulk d + 1
 end
def uptoSmall : (H : Type) → List (DataW H) → Bool := fun _ ds => decide (uptoBulkAll ds ≤ 1048576)
def OpenSpec.upto (s : _root_.Go.ChangeSpec) : _root_.Go.OpenSpec := { _root_.Go.OpenSpec.ofChange s with cond := some uptoSmall }

/-- 'linkboylaw12.QuoteOf', WHERE WHAT IT READS IS OF BULK AT MOST 1048576: true; the input reads as it did. -/
def quoteOfUptoRow : OpenClaim := { program := "ytkoamiefombilaa", sum := "d22b841ae458bd702827a5444c0aefff2a8277de9f9293b8a54616f96a014b6f", func := "linkboy/linkboylaw12.QuoteOf", spec := "quoteOf", inPlace := ["internal/bytealg.MakeNoZero"], apart := false, narrowed := true }
def QuoteOfUptoSaid : Prop := quoteOfUptoRow.holds Try.pinned (OpenSpec.upto quoteOfSpec)

/-- 'linkboylaw12.QuoteFailed', WHERE WHAT IT READS IS OF BULK AT MOST 1048576: true; the input reads as it did. -/
def quoteFailedUptoRow : OpenClaim := { program := "ytkoamiefombilaa", sum := "d22b841ae458bd702827a5444c0aefff2a8277de9f9293b8a54616f96a014b6f", func := "linkboy/linkboylaw12.QuoteFailed", spec := "quoteFailed", inPlace := ["internal/bytealg.MakeNoZero"], apart := false, narrowed := true }
def QuoteFailedUptoSaid : Prop := quoteFailedUptoRow.holds Try.pinned (OpenSpec.upto quoteFailedSpec)

/-- 'linkboylaw26.RecvBody', WHERE WHAT IT READS IS OF BULK AT MOST 1048576: true; the input reads as it did. -/
def recvBodyUptoRow : OpenClaim := { program := "ytkoamiefombilaa", sum := "d22b841ae458bd702827a5444c0aefff2a8277de9f9293b8a54616f96a014b6f", func := "linkboy/linkboylaw26.RecvBody", spec := "recvBody", inPlace := ["internal/bytealg.MakeNoZero"], apart := false, narrowed := true }
def RecvBodyUptoSaid : Prop := recvBodyUptoRow.holds Try.pinned (OpenSpec.upto recvBodySpec)

/-- 'linkboylaw26.RecvKinds', WHERE WHAT IT READS IS OF BULK AT MOST 1048576: true; the input reads as it did. -/
def recvKindsUptoRow : OpenClaim := { program := "ytkoamiefombilaa", sum := "d22b841ae458bd702827a5444c0aefff2a8277de9f9293b8a54616f96a014b6f", func := "linkboy/linkboylaw26.RecvKinds", spec := "recvKinds", inPlace := ["internal/bytealg.MakeNoZero"], apart := false, narrowed := true }
def RecvKindsUptoSaid : Prop := recvKindsUptoRow.holds Try.pinned (OpenSpec.upto recvKindsSpec)

/-- 'linkboylaw29.TunWraps', WHERE WHAT IT READS IS OF BULK AT MOST 1048576: true; the input reads as it did. -/
def tunWrapsUptoRow : OpenClaim := { program := "ytkoamiefombilaa", sum := "d22b841ae458bd702827a5444c0aefff2a8277de9f9293b8a54616f96a014b6f", func := "linkboy/linkboylaw29.TunWraps", spec := "tunWraps", inPlace := ["internal/bytealg.MakeNoZero"], apart := false, narrowed := true }
def TunWrapsUptoSaid : Prop := tunWrapsUptoRow.holds Try.pinned (OpenSpec.upto tunWrapsSpec)

/-- 'linkboylaw29.TunBack', WHERE WHAT IT READS IS OF BULK AT MOST 1048576: true; the input reads as it did. -/
def tunBackUptoRow : OpenClaim := { program := "ytkoamiefombilaa", sum := "d22b841ae458bd702827a5444c0aefff2a8277de9f9293b8a54616f96a014b6f", func := "linkboy/linkboylaw29.TunBack", spec := "tunBack", inPlace := ["internal/bytealg.MakeNoZero"], apart := false, narrowed := true }
def TunBackUptoSaid : Prop := tunBackUptoRow.holds Try.pinned (OpenSpec.upto tunBackSpec)

/-- 'linkboylaw29.TunBounds', WHERE WHAT IT READS IS OF BULK AT MOST 1048576: true; the input reads as it did. -/
def tunBoundsUptoRow : OpenClaim := { program := "ytkoamiefombilaa", sum := "d22b841ae458bd702827a5444c0aefff2a8277de9f9293b8a54616f96a014b6f", func := "linkboy/linkboylaw29.TunBounds", spec := "tunBounds", inPlace := ["internal/bytealg.MakeNoZero"], apart := false, narrowed := true }
def TunBoundsUptoSaid : Prop := tunBoundsUptoRow.holds Try.pinned (OpenSpec.upto tunBoundsSpec)

end Rows
end Go.Proofs.Ytkoamiefombilaa
