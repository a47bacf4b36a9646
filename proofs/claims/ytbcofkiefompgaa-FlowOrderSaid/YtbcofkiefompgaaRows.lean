/-
  No cell of these rows narrows 'for every input' (looked for: loops, veiled, ifaces, maps, wideKeys, modest, calm, conditions, laid).
  DERIVED. THE GIVEN ROWS OF THIS SEAT. 12 by the template 'for every input the law returns true; each argument reads behind the call as it read before'; 0 by the template 'total and deterministic' (their statements: YtbcofkiefompgaaTotals.lean).
  GIVEN WITH THE SEED: the statements are not yours to turn. If you find one false, say at which input.
  Laid BY PROGRAM, IN A SANDBOX (cutbox-rows.mjs): the forced cells as the released guide's own fill.sh prints them over the translation d29c92a4bb9233db… (all of the seat's roots in one cut). By AI agents, Wed Nov 11 2026. No macro, syntax, notation, axiom, sorry.
-/
import Derived.Test.YtbcofkiefompgaaChecked
import GoSem.Claim
import GoSem.ClaimJoined
import GoSem.ClaimMapViews
import Derived.JoinedTies
import Derived.KernelRfl
namespace Go.Proofs.Ytbcofkiefompgaa
/- THE CELL 'sum', in the pinned program and in every row, IS THE sha256 OF THE DUMP (.gsa) THAT YtbcofkiefompgaaProg.lean LOADS. Nothing in Lean hashes anything: it is a label: what it is worth is what the hold of that sum in a sandbox is worth. -/
noncomputable def Try.pinned : Pinned := { name := "ytbcofkiefompgaa", sum := "d29c92a4bb9233dba3d372a4cad240b6a3294ce67182f623b78079ea55f1a992", checked := Try.checked }
namespace Rows
def none {H : Type} : Left H := { results := [], args := [] }

/-- 'linkboylaw04.EtherMine': WHATEVER THE INPUT: true; the input reads as it did. -/
def etherMineSpec : ChangeSpec := { name := "etherMine", fn := fun _ => fun
  | [d1, d2] => { results := [.lit (.bool true)], args := [d1, d2] }
  | _ => none }
def etherMineRow : OpenClaim := { program := "ytbcofkiefompgaa", sum := "d29c92a4bb9233dba3d372a4cad240b6a3294ce67182f623b78079ea55f1a992", func := "linkboy/linkboylaw04.EtherMine", spec := "etherMine", apart := false }
def EtherMineSaid : Prop := etherMineRow.holds Try.pinned (OpenSpec.ofChange etherMineSpec)

/-- ITS FALSE NEIGHBOUR: 'it returns false'. Refute it at one input. -/
def etherMineWrong : ChangeSpec := { name := "etherMine", fn := fun _ => fun
  | [d1, d2] => { results := [.lit (.bool false)], args := [d1, d2] }
  | _ => none }
def EtherMineWrongFalsely : Prop := etherMineRow.holds Try.pinned (OpenSpec.ofChange etherMineWrong)

/-- 'linkboylaw11.FlowOf': WHATEVER THE INPUT: true; the input reads as it did. -/
def flowOfSpec : ChangeSpec := { name := "flowOf", fn := fun _ => fun
  | [d] => { results := [.lit (.bool true)], args := [d] }
  | _ => none }
def flowOfRow : OpenClaim := { program := "ytbcofkiefompgaa", sum := "d29c92a4bb9233dba3d372a4cad240b6a3294ce67182f623b78079ea55f1a992", func := "linkboy/linkboylaw11.FlowOf", spec := "flowOf", apart := false }
def FlowOfSaid : Prop := flowOfRow.holds Try.pinned (OpenSpec.ofChange flowOfSpec)

/-- ITS FALSE NEIGHBOUR: 'it returns false'. Refute it at one input. -/
def flowOfWrong : ChangeSpec := { name := "flowOf", fn := fun _ => fun
  | [d] => { results := [.lit (.bool false)], args := [d] }
  | _ => none }
def FlowOfWrongFalsely : Prop := flowOfRow.holds Try.pinned (OpenSpec.ofChange flowOfWrong)

/-- 'linkboylaw11.FlowOrder': WHATEVER THE INPUT: true; the input reads as it did. -/
def flowOrderSpec : ChangeSpec := { name := "flowOrder", fn := fun _ => fun
  | [d1, d2, d3] => { results := [.lit (.bool true)], args := [d1, d2, d3] }
  | _ => none }
def flowOrderRow : OpenClaim := { program := "ytbcofkiefompgaa", sum := "d29c92a4bb9233dba3d372a4cad240b6a3294ce67182f623b78079ea55f1a992", func := "linkboy/linkboylaw11.FlowOrder", spec := "flowOrder", inPlace := ["internal/bytealg.MakeNoZero", "internal/bytealg.Compare"], apart := false }
def FlowOrderSaid : Prop := flowOrderRow.holds Try.pinned (OpenSpec.ofChange flowOrderSpec)

/-- ITS FALSE NEIGHBOUR: 'it returns false'. Refute it at one input. -/
def flowOrderWrong : ChangeSpec := { name := "flowOrder", fn := fun _ => fun
  | [d1, d2, d3] => { results := [.lit (.bool false)], args := [d1, d2, d3] }
  | _ => none }
def FlowOrderWrongFalsely : Prop := flowOrderRow.holds Try.pinned (OpenSpec.ofChange flowOrderWrong)

/-- 'linkboylaw14.PoolNone': WHATEVER THE INPUT: true; the input reads as it did. -/
def poolNoneSpec : ChangeSpec := { name := "poolNone", fn := fun _ => fun
  | [d1, d2] => { results := [.lit (.bool true)], args := [d1, d2] }
  | _ => none }
def poolNoneRow : OpenClaim := { program := "ytbcofkiefompgaa", sum := "d29c92a4bb9233dba3d372a4cad240b6a3294ce67182f623b78079ea55f1a992", func := "linkboy/linkboylaw14.PoolNone", spec := "poolNone", inPlace := ["internal/bytealg.MakeNoZero"], apart := false }
def PoolNoneSaid : Prop := poolNoneRow.holds Try.pinned (OpenSpec.ofChange poolNoneSpec)

/-- ITS FALSE NEIGHBOUR: 'it returns false'. Refute it at one input. -/
def poolNoneWrong : ChangeSpec := { name := "poolNone", fn := fun _ => fun
  | [d1, d2] => { results := [.lit (.bool false)], args := [d1, d2] }
  | _ => none }
def PoolNoneWrongFalsely : Prop := poolNoneRow.holds Try.pinned (OpenSpec.ofChange poolNoneWrong)

/-- 'linkboylaw15.RingDoes': WHATEVER THE INPUT: true; the input reads as it did. -/
def ringDoesSpec : ChangeSpec := { name := "ringDoes", fn := fun _ => fun
  | [d1, d2, d3] => { results := [.lit (.bool true)], args := [d1, d2, d3] }
  | _ => none }
def ringDoesRow : OpenClaim := { program := "ytbcofkiefompgaa", sum := "d29c92a4bb9233dba3d372a4cad240b6a3294ce67182f623b78079ea55f1a992", func := "linkboy/linkboylaw15.RingDoes", spec := "ringDoes", apart := false }
def RingDoesSaid : Prop := ringDoesRow.holds Try.pinned (OpenSpec.ofChange ringDoesSpec)

/-- ITS FALSE NEIGHBOUR: 'it returns false'. Refute it at one input. -/
def ringDoesWrong : ChangeSpec := { name := "ringDoes", fn := fun _ => fun
  | [d1, d2, d3] => { results := [.lit (.bool false)], args := [d1, d2, d3] }
  | _ => none }
def RingDoesWrongFalsely : Prop := ringDoesRow.holds Try.pinned (OpenSpec.ofChange ringDoesWrong)

/-- 'linkboylaw15.RingOrder': WHATEVER THE INPUT: true; the input reads as it did. -/
def ringOrderSpec : ChangeSpec := { name := "ringOrder", fn := fun _ => fun
  | [d1, d2] => { results := [.lit (.bool true)], args := [d1, d2] }
  | _ => none }
def ringOrderRow : OpenClaim := { program := "ytbcofkiefompgaa", sum := "d29c92a4bb9233dba3d372a4cad240b6a3294ce67182f623b78079ea55f1a992", func := "linkboy/linkboylaw15.RingOrder", spec := "ringOrder", apart := false }
def RingOrderSaid : Prop := ringOrderRow.holds Try.pinned (OpenSpec.ofChange ringOrderSpec)

/-- ITS FALSE NEIGHBOUR: 'it returns false'. Refute it at one input. -/
def ringOrderWrong : ChangeSpec := { name := "ringOrder", fn := fun _ => fun
  | [d1, d2] => { results := [.lit (.bool false)], args := [d1, d2] }
  | _ => none }
def RingOrderWrongFalsely : Prop := ringOrderRow.holds Try.pinned (OpenSpec.ofChange ringOrderWrong)

/-- 'linkboylaw15.RingNone': WHATEVER THE INPUT: true; the input reads as it did. -/
def ringNoneSpec : ChangeSpec := { name := "ringNone", fn := fun _ => fun
  | [d] => { results := [.lit (.bool true)], args := [d] }
  | _ => none }
def ringNoneRow : OpenClaim := { program := "ytbcofkiefompgaa", sum := "d29c92a4bb9233dba3d372a4cad240b6a3294ce67182f623b78079ea55f1a992", func := "linkboy/linkboylaw15.RingNone", spec := "ringNone", apart := false }
def RingNoneSaid : Prop := ringNoneRow.holds Try.pinned (OpenSpec.ofChange ringNoneSpec)

/-- ITS FALSE NEIGHBOUR: 'it returns false'. Refute it at one input. -/
def ringNoneWrong : ChangeSpec := { name := "ringNone", fn := fun _ => fun
  | [d] => { results := [.lit (.bool false)], args := [d] }
  | _ => none }
def RingNoneWrongFalsely : Prop := ringNoneRow.holds Try.pinned (OpenSpec.ofChange ringNoneWrong)

/-- 'linkboylaw20.ScoreOf': WHATEVER THE INPUT: true; the input reads as it did. -/
def scoreOfSpec : ChangeSpec := { name := "scoreOf", fn := fun _ => fun
  | [d1, d2, d3] => { results := [.lit (.bool true)], args := [d1, d2, d3] }
  | _ => none }
def scoreOfRow : OpenClaim := { program := "ytbcofkiefompgaa", sum := "d29c92a4bb9233dba3d372a4cad240b6a3294ce67182f623b78079ea55f1a992", func := "linkboy/linkboylaw20.ScoreOf", spec := "scoreOf", apart := false }
def ScoreOfSaid : Prop := scoreOfRow.holds Try.pinned (OpenSpec.ofChange scoreOfSpec)

/-- ITS FALSE NEIGHBOUR: 'it returns false'. Refute it at one input. -/
def scoreOfWrong : ChangeSpec := { name := "scoreOf", fn := fun _ => fun
  | [d1, d2, d3] => { results := [.lit (.bool false)], args := [d1, d2, d3] }
  | _ => none }
def ScoreOfWrongFalsely : Prop := scoreOfRow.holds Try.pinned (OpenSpec.ofChange scoreOfWrong)

/-- 'linkboylaw20.ScoreNext': WHATEVER THE INPUT: true; the input reads as it did. -/
def scoreNextSpec : ChangeSpec := { name := "scoreNext", fn := fun _ => fun
  | [d1, d2, d3, d4] => { results := [.lit (.bool true)], args := [d1, d2, d3, d4] }
  | _ => none }
def scoreNextRow : OpenClaim := { program := "ytbcofkiefompgaa", sum := "d29c92a4bb9233dba3d372a4cad240b6a3294ce67182f623b78079ea55f1a992", func := "linkboy/linkboylaw20.ScoreNext", spec := "scoreNext", apart := false }
def ScoreNextSaid : Prop := scoreNextRow.holds Try.pinned (OpenSpec.ofChange scoreNextSpec)

/-- ITS FALSE NEIGHBOUR: 'it returns false'. Refute it at one input. -/
def scoreNextWrong : ChangeSpec := { name := "scoreNext", fn := fun _ => fun
  | [d1, d2, d3, d4] => { results := [.lit (.bool false)], args := [d1, d2, d3, d4] }
  | _ => none }
def ScoreNextWrongFalsely : Prop := scoreNextRow.holds Try.pinned (OpenSpec.ofChange scoreNextWrong)

/-- 'linkboylaw20.ScoreParts': WHATEVER THE INPUT: true; the input reads as it did. -/
def scorePartsSpec : ChangeSpec := { name := "scoreParts", fn := fun _ => fun
  | [d1, d2, d3, d4] => { results := [.lit (.bool true)], args := [d1, d2, d3, d4] }
  | _ => none }
def scorePartsRow : OpenClaim := { program := "ytbcofkiefompgaa", sum := "d29c92a4bb9233dba3d372a4cad240b6a3294ce67182f623b78079ea55f1a992", func := "linkboy/linkboylaw20.ScoreParts", spec := "scoreParts", apart := false }
def ScorePartsSaid : Prop := scorePartsRow.holds Try.pinned (OpenSpec.ofChange scorePartsSpec)

/-- ITS FALSE NEIGHBOUR: 'it returns false'. Refute it at one input. -/
def scorePartsWrong : ChangeSpec := { name := "scoreParts", fn := fun _ => fun
  | [d1, d2, d3, d4] => { results := [.lit (.bool false)], args := [d1, d2, d3, d4] }
  | _ => none }
def ScorePartsWrongFalsely : Prop := scorePartsRow.holds Try.pinned (OpenSpec.ofChange scorePartsWrong)

/-- 'linkboylaw21.PhaseGoes': WHATEVER THE INPUT: true; the input reads as it did. -/
def phaseGoesSpec : ChangeSpec := { name := "phaseGoes", fn := fun _ => fun
  | [d1, d2, d3] => { results := [.lit (.bool true)], args := [d1, d2, d3] }
  | _ => none }
def phaseGoesRow : OpenClaim := { program := "ytbcofkiefompgaa", sum := "d29c92a4bb9233dba3d372a4cad240b6a3294ce67182f623b78079ea55f1a992", func := "linkboy/linkboylaw21.PhaseGoes", spec := "phaseGoes", apart := false }
def PhaseGoesSaid : Prop := phaseGoesRow.holds Try.pinned (OpenSpec.ofChange phaseGoesSpec)

/-- ITS FALSE NEIGHBOUR: 'it returns false'. Refute it at one input. -/
def phaseGoesWrong : ChangeSpec := { name := "phaseGoes", fn := fun _ => fun
  | [d1, d2, d3] => { results := [.lit (.bool false)], args := [d1, d2, d3] }
  | _ => none }
def PhaseGoesWrongFalsely : Prop := phaseGoesRow.holds Try.pinned (OpenSpec.ofChange phaseGoesWrong)

/-- 'linkboylaw21.PhaseGone': WHATEVER THE INPUT: true; the input reads as it did. -/
def phaseGoneSpec : ChangeSpec := { name := "phaseGone", fn := fun _ => fun
  | [d] => { results := [.lit (.bool true)], args := [d] }
  | _ => none }
def phaseGoneRow : OpenClaim := { program := "ytbcofkiefompgaa", sum := "d29c92a4bb9233dba3d372a4cad240b6a3294ce67182f623b78079ea55f1a992", func := "linkboy/linkboylaw21.PhaseGone", spec := "phaseGone", apart := false }
def PhaseGoneSaid : Prop := phaseGoneRow.holds Try.pinned (OpenSpec.ofChange phaseGoneSpec)

/-- ITS FALSE NEIGHBOUR: 'it returns false'. Refute it at one input. -/
def phaseGoneWrong : ChangeSpec := { name := "phaseGone", fn := fun _ => fun
  | [d] => { results := [.lit (.bool false)], args := [d] }
  | _ => none }
def PhaseGoneWrongFalsely : Prop := phaseGoneRow.holds Try.pinned (OpenSpec.ofChange phaseGoneWrong)

/- THE SECOND FORM. 'bulk': how many values and letters a reading holds, each counted each time it is reached (what is shared counts as often as it is met; a slice's spare places count too). A statement '..UptoSaid' is the law's where the arguments, and the package variables that the reading takes, are together of bulk at most 1048576: NARROWER than '..Said'. Prove '..Said' where nothing that the law and all that it calls make is longer than what came in: it says more and counts as full. Else prove '..UptoSaid'. A law counts once. -/
mutual
def uptoBulk {H : Type} : DataW H → Nat
  | .lit (.string bytes) => bytes.length + 1
  | .lit _ => 1
  | .nil => 1
  | .ptr d => uptoBulk d + 1
  | .slice elems spare => uptoBulkAll elems + uptoBulkAll spare + 1
  | .agg parts => uptoBulkAll parts + 1
  | .iface _ d => uptoBulk d + 1
  | .map entries => uptoBulkEntries entries + 1
  | .held _ => 1
def uptoBulkAll {H : Type} : List (DataW H) → Nat
  | [] => 0
  | d :: r => uptoBulk d + uptoBulkAll r
def uptoBulkEntries {H : Type} : List (Lit × DataW H) → Nat
  | [] => 0
  | x :: r => uptoBulkEntry x + uptoBulkEntries r
def uptoBulkEntry {H : Type} : Lit × DataW H → Nat
  | (.string bytes, d) => bytes.length + uptoBulk d + 1
  | (_, d) => uptoBulk d + 1
 end
def uptoSmall : (H : Type) → List (DataW H) → Bool := fun _ ds => decide (uptoBulkAll ds ≤ 1048576)
def OpenSpec.upto (s : _root_.Go.ChangeSpec) : _root_.Go.OpenSpec := { _root_.Go.OpenSpec.ofChange s with cond := some uptoSmall }

/-- 'linkboylaw04.EtherMine', WHERE WHAT IT READS IS OF BULK AT MOST 1048576: true; the input reads as it did. -/
def etherMineUptoRow : OpenClaim := { program := "ytbcofkiefompgaa", sum := "d29c92a4bb9233dba3d372a4cad240b6a3294ce67182f623b78079ea55f1a992", func := "linkboy/linkboylaw04.EtherMine", spec := "etherMine", apart := false, narrowed := true }
def EtherMineUptoSaid : Prop := etherMineUptoRow.holds Try.pinned (OpenSpec.upto etherMineSpec)

/-- 'linkboylaw11.FlowOf', WHERE WHAT IT READS IS OF BULK AT MOST 1048576: true; the input reads as it did. -/
def flowOfUptoRow : OpenClaim := { program := "ytbcofkiefompgaa", sum := "d29c92a4bb9233dba3d372a4cad240b6a3294ce67182f623b78079ea55f1a992", func := "linkboy/linkboylaw11.FlowOf", spec := "flowOf", apart := false, narrowed := true }
def FlowOfUptoSaid : Prop := flowOfUptoRow.holds Try.pinned (OpenSpec.upto flowOfSpec)

/-- 'linkboylaw11.FlowOrder', WHERE WHAT IT READS IS OF BULK AT MOST 1048576: true; the input reads as it did. -/
def flowOrderUptoRow : OpenClaim := { program := "ytbcofkiefompgaa", sum := "d29c92a4bb9233dba3d372a4cad240b6a3294ce67182f623b78079ea55f1a992", func := "linkboy/linkboylaw11.FlowOrder", spec := "flowOrder", inPlace := ["internal/bytealg.MakeNoZero", "internal/bytealg.Compare"], apart := false, narrowed := true }
def FlowOrderUptoSaid : Prop := flowOrderUptoRow.holds Try.pinned (OpenSpec.upto flowOrderSpec)

/-- 'linkboylaw14.PoolNone', WHERE WHAT IT READS IS OF BULK AT MOST 1048576: true; the input reads as it did. -/
def poolNoneUptoRow : OpenClaim := { program := "ytbcofkiefompgaa", sum := "d29c92a4bb9233dba3d372a4cad240b6a3294ce67182f623b78079ea55f1a992", func := "linkboy/linkboylaw14.PoolNone", spec := "poolNone", inPlace := ["internal/bytealg.MakeNoZero"], apart := false, narrowed := true }
def PoolNoneUptoSaid : Prop := poolNoneUptoRow.holds Try.pinned (OpenSpec.upto poolNoneSpec)

/-- 'linkboylaw15.RingDoes', WHERE WHAT IT READS IS OF BULK AT MOST 1048576: true; the input reads as it did. -/
def ringDoesUptoRow : OpenClaim := { program := "ytbcofkiefompgaa", sum := "d29c92a4bb9233dba3d372a4cad240b6a3294ce67182f623b78079ea55f1a992", func := "linkboy/linkboylaw15.RingDoes", spec := "ringDoes", apart := false, narrowed := true }
def RingDoesUptoSaid : Prop := ringDoesUptoRow.holds Try.pinned (OpenSpec.upto ringDoesSpec)

/-- 'linkboylaw15.RingOrder', WHERE WHAT IT READS IS OF BULK AT MOST 1048576: true; the input reads as it did. -/
def ringOrderUptoRow : OpenClaim := { program := "ytbcofkiefompgaa", sum := "d29c92a4bb9233dba3d372a4cad240b6a3294ce67182f623b78079ea55f1a992", func := "linkboy/linkboylaw15.RingOrder", spec := "ringOrder", apart := false, narrowed := true }
def RingOrderUptoSaid : Prop := ringOrderUptoRow.holds Try.pinned (OpenSpec.upto ringOrderSpec)

/-- 'linkboylaw15.RingNone', WHERE WHAT IT READS IS OF BULK AT MOST 1048576: true; the input reads as it did. -/
def ringNoneUptoRow : OpenClaim := { program := "ytbcofkiefompgaa", sum := "d29c92a4bb9233dba3d372a4cad240b6a3294ce67182f623b78079ea55f1a992", func := "linkboy/linkboylaw15.RingNone", spec := "ringNone", apart := false, narrowed := true }
def RingNoneUptoSaid : Prop := ringNoneUptoRow.holds Try.pinned (OpenSpec.upto ringNoneSpec)

/-- 'linkboylaw20.ScoreOf', WHERE WHAT IT READS IS OF BULK AT MOST 1048576: true; the input reads as it did. -/
def scoreOfUptoRow : OpenClaim := { program := "ytbcofkiefompgaa", sum := "d29c92a4bb9233dba3d372a4cad240b6a3294ce67182f623b78079ea55f1a992", func := "linkboy/linkboylaw20.ScoreOf", spec := "scoreOf", apart := false, narrowed := true }
def ScoreOfUptoSaid : Prop := scoreOfUptoRow.holds Try.pinned (OpenSpec.upto scoreOfSpec)

/-- 'linkboylaw20.ScoreNext', WHERE WHAT IT READS IS OF BULK AT MOST 1048576: true; the input reads as it did. -/
def scoreNextUptoRow : OpenClaim := { program := "ytbcofkiefompgaa", sum := "d29c92a4bb9233dba3d372a4cad240b6a3294ce67182f623b78079ea55f1a992", func := "linkboy/linkboylaw20.ScoreNext", spec := "scoreNext", apart := false, narrowed := true }
def ScoreNextUptoSaid : Prop := scoreNextUptoRow.holds Try.pinned (OpenSpec.upto scoreNextSpec)

/-- 'linkboylaw20.ScoreParts', WHERE WHAT IT READS IS OF BULK AT MOST 1048576: true; the input reads as it did. -/
def scorePartsUptoRow : OpenClaim := { program := "ytbcofkiefompgaa", sum := "d29c92a4bb9233dba3d372a4cad240b6a3294ce67182f623b78079ea55f1a992", func := "linkboy/linkboylaw20.ScoreParts", spec := "scoreParts", apart := false, narrowed := true }
def ScorePartsUptoSaid : Prop := scorePartsUptoRow.holds Try.pinned (OpenSpec.upto scorePartsSpec)

/-- 'linkboylaw21.PhaseGoes', WHERE WHAT IT READS IS OF BULK AT MOST 1048576: true; the input reads as it did. -/
def phaseGoesUptoRow : OpenClaim := { program := "ytbcofkiefompgaa", sum := "d29c92a4bb9233dba3d372a4cad240b6a3294ce67182f623b78079ea55f1a992", func := "linkboy/linkboylaw21.PhaseGoes", spec := "phaseGoes", apart := false, narrowed := true }
def PhaseGoesUptoSaid : Prop := phaseGoesUptoRow.holds Try.pinned (OpenSpec.upto phaseGoesSpec)

/-- 'linkboylaw21.PhaseGone', WHERE WHAT IT READS IS OF BULK AT MOST 1048576: true; the input reads as it did. -/
def phaseGoneUptoRow : OpenClaim := { program := "ytbcofkiefompgaa", sum := "d29c92a4bb9233dba3d372a4cad240b6a3294ce67182f623b78079ea55f1a992", func := "linkboy/linkboylaw21.PhaseGone", spec := "phaseGone", apart := false, narrowed := true }
def PhaseGoneUptoSaid : Prop := phaseGoneUptoRow.holds Try.pinned (OpenSpec.upto phaseGoneSpec)

end Rows
end Go.Proofs.Ytbcofkiefompgaa
