/-
  NARROWER THAN 'FOR EVERY INPUT', by the rows' own cells (each row's printed sentence says how): CookieMakes: laid · CookieRight: laid · CookieLasts: laid · ProxyOffers: laid · ProxyJoins: laid · ProxyAnswers: laid.
  DERIVED. THE GIVEN ROWS OF THIS SEAT. 6 by the template 'for every input the law returns true; each argument reads behind the call as it read before'; 0 by the template 'total and deterministic' (their statements: YteodjajjlgekcaaDoorTotals.lean).
  GIVEN WITH THE SEED: the statements are not yours to turn. If you find one false, say at which input.
  Laid BY PROGRAM, IN A SANDBOX (cutbox-rows.mjs): the forced cells as the released guide's own fill.sh prints them over the translation 97e32996073f18f7… (all of the seat's roots in one cut). By AI agents, Wed Nov 11 2026. No macro, syntax, notation, axiom, sorry.
-/
import Derived.Test.YteodjajjlgekcaaDoorChecked
import GoSem.Claim
import GoSem.ClaimJoined
import GoSem.ClaimMapViews
import Derived.JoinedTies
import Derived.KernelRfl
namespace Go.Proofs.YteodjajjlgekcaaDoor
/- THE CELL 'sum', in the pinned program and in every row, IS THE sha256 OF THE DUMP (.gsa) THAT YteodjajjlgekcaaDoorProg.lean LOADS. Nothing in Lean hashes anything: it is a label: what it is worth is what the hold of that sum in a sandbox is worth. -/
noncomputable def Tryd.pinned : Pinned := { name := "yteodjajjlgekcaadoor", sum := "97e32996073f18f70244c2bfcf8409f3958e7706bf1066a1b071377d2c6a283e", checked := Tryd.checked }
namespace Rows
def none {H : Type} : Left H := { results := [], args := [] }

/- WHAT THE LISTED PACKAGE-LEVEL VARIABLES READ AS WHEN THE CALL BEGINS. Each datum BY PROGRAM (the guide's laid-datum.mjs) off the statement by which the dump's own 'gosem.cut.vars' lays the variable. In a bare row this is a premise. The card (YteodjajjlgekcaaDoorCards.lean) ties it to the program's text. -/
def laid_linkboy_cookie_sizes {H : Type} : DataW H := .agg [.lit (.int .u16 216), .lit (.int .u16 536), .lit (.int .u16 996), .lit (.int .u16 1220), .lit (.int .u16 1300), .lit (.int .u16 1400), .lit (.int .u16 1440), .lit (.int .u16 1460)]

/-- 'linkboylaw27.CookieMakes': WHATEVER THE INPUT: true; the input reads as it did. -/
def cookieMakesSpec : ChangeSpec := { name := "cookieMakes", fn := fun _ => fun
  | [d1, d2, d3, d4, d5, d6] => { results := [.lit (.bool true)], args := [d1, d2, d3, d4, d5, d6] }
  | _ => none }
def cookieMakesRow : OpenClaim := { program := "yteodjajjlgekcaadoor", sum := "97e32996073f18f70244c2bfcf8409f3958e7706bf1066a1b071377d2c6a283e", func := "linkboy/linkboylaw27.CookieMakes", spec := "cookieMakes", inPlace := ["internal/bytealg.MakeNoZero"], named := ["linkboy/cookie.sizes"], apart := false, laid := [("linkboy/cookie.sizes", laid_linkboy_cookie_sizes)] }
def CookieMakesSaid : Prop := cookieMakesRow.holds Tryd.pinned (OpenSpec.ofChange cookieMakesSpec)

/-- ITS FALSE NEIGHBOUR: 'it returns false'. Refute it at one input. -/
def cookieMakesWrong : ChangeSpec := { name := "cookieMakes", fn := fun _ => fun
  | [d1, d2, d3, d4, d5, d6] => { results := [.lit (.bool false)], args := [d1, d2, d3, d4, d5, d6] }
  | _ => none }
def CookieMakesWrongFalsely : Prop := cookieMakesRow.holds Tryd.pinned (OpenSpec.ofChange cookieMakesWrong)

/-- 'linkboylaw27.CookieRight': WHATEVER THE INPUT: true; the input reads as it did. -/
def cookieRightSpec : ChangeSpec := { name := "cookieRight", fn := fun _ => fun
  | [d1, d2, d3, d4] => { results := [.lit (.bool true)], args := [d1, d2, d3, d4] }
  | _ => none }
def cookieRightRow : OpenClaim := { program := "yteodjajjlgekcaadoor", sum := "97e32996073f18f70244c2bfcf8409f3958e7706bf1066a1b071377d2c6a283e", func := "linkboy/linkboylaw27.CookieRight", spec := "cookieRight", inPlace := ["internal/bytealg.MakeNoZero"], named := ["linkboy/cookie.sizes"], apart := false, laid := [("linkboy/cookie.sizes", laid_linkboy_cookie_sizes)] }
def CookieRightSaid : Prop := cookieRightRow.holds Tryd.pinned (OpenSpec.ofChange cookieRightSpec)

/-- ITS FALSE NEIGHBOUR: 'it returns false'. Refute it at one input. -/
def cookieRightWrong : ChangeSpec := { name := "cookieRight", fn := fun _ => fun
  | [d1, d2, d3, d4] => { results := [.lit (.bool false)], args := [d1, d2, d3, d4] }
  | _ => none }
def CookieRightWrongFalsely : Prop := cookieRightRow.holds Tryd.pinned (OpenSpec.ofChange cookieRightWrong)

/-- 'linkboylaw27.CookieLasts': WHATEVER THE INPUT: true; the input reads as it did. -/
def cookieLastsSpec : ChangeSpec := { name := "cookieLasts", fn := fun _ => fun
  | [d1, d2, d3, d4, d5] => { results := [.lit (.bool true)], args := [d1, d2, d3, d4, d5] }
  | _ => none }
def cookieLastsRow : OpenClaim := { program := "yteodjajjlgekcaadoor", sum := "97e32996073f18f70244c2bfcf8409f3958e7706bf1066a1b071377d2c6a283e", func := "linkboy/linkboylaw27.CookieLasts", spec := "cookieLasts", inPlace := ["internal/bytealg.MakeNoZero"], named := ["linkboy/cookie.sizes"], apart := false, laid := [("linkboy/cookie.sizes", laid_linkboy_cookie_sizes)] }
def CookieLastsSaid : Prop := cookieLastsRow.holds Tryd.pinned (OpenSpec.ofChange cookieLastsSpec)

/-- ITS FALSE NEIGHBOUR: 'it returns false'. Refute it at one input. -/
def cookieLastsWrong : ChangeSpec := { name := "cookieLasts", fn := fun _ => fun
  | [d1, d2, d3, d4, d5] => { results := [.lit (.bool false)], args := [d1, d2, d3, d4, d5] }
  | _ => none }
def CookieLastsWrongFalsely : Prop := cookieLastsRow.holds Tryd.pinned (OpenSpec.ofChange cookieLastsWrong)

/-- 'linkboylaw38.ProxyOffers': WHATEVER THE INPUT: true; the input reads as it did. -/
def proxyOffersSpec : ChangeSpec := { name := "proxyOffers", fn := fun _ => fun
  | [d1, d2, d3] => { results := [.lit (.bool true)], args := [d1, d2, d3] }
  | _ => none }
def proxyOffersRow : OpenClaim := { program := "yteodjajjlgekcaadoor", sum := "97e32996073f18f70244c2bfcf8409f3958e7706bf1066a1b071377d2c6a283e", func := "linkboy/linkboylaw38.ProxyOffers", spec := "proxyOffers", inPlace := ["internal/bytealg.MakeNoZero"], named := ["linkboy/cookie.sizes"], apart := false, laid := [("linkboy/cookie.sizes", laid_linkboy_cookie_sizes)] }
def ProxyOffersSaid : Prop := proxyOffersRow.holds Tryd.pinned (OpenSpec.ofChange proxyOffersSpec)

/-- ITS FALSE NEIGHBOUR: 'it returns false'. Refute it at one input. -/
def proxyOffersWrong : ChangeSpec := { name := "proxyOffers", fn := fun _ => fun
  | [d1, d2, d3] => { results := [.lit (.bool false)], args := [d1, d2, d3] }
  | _ => none }
def ProxyOffersWrongFalsely : Prop := proxyOffersRow.holds Tryd.pinned (OpenSpec.ofChange proxyOffersWrong)

/-- 'linkboylaw38.ProxyJoins': WHATEVER THE INPUT: true; the input reads as it did. -/
def proxyJoinsSpec : ChangeSpec := { name := "proxyJoins", fn := fun _ => fun
  | [d1, d2, d3, d4, d5, d6, d7] => { results := [.lit (.bool true)], args := [d1, d2, d3, d4, d5, d6, d7] }
  | _ => none }
def proxyJoinsRow : OpenClaim := { program := "yteodjajjlgekcaadoor", sum := "97e32996073f18f70244c2bfcf8409f3958e7706bf1066a1b071377d2c6a283e", func := "linkboy/linkboylaw38.ProxyJoins", spec := "proxyJoins", inPlace := ["internal/bytealg.MakeNoZero"], named := ["linkboy/cookie.sizes"], apart := false, laid := [("linkboy/cookie.sizes", laid_linkboy_cookie_sizes)] }
def ProxyJoinsSaid : Prop := proxyJoinsRow.holds Tryd.pinned (OpenSpec.ofChange proxyJoinsSpec)

/-- ITS FALSE NEIGHBOUR: 'it returns false'. Refute it at one input. -/
def proxyJoinsWrong : ChangeSpec := { name := "proxyJoins", fn := fun _ => fun
  | [d1, d2, d3, d4, d5, d6, d7] => { results := [.lit (.bool false)], args := [d1, d2, d3, d4, d5, d6, d7] }
  | _ => none }
def ProxyJoinsWrongFalsely : Prop := proxyJoinsRow.holds Tryd.pinned (OpenSpec.ofChange proxyJoinsWrong)

/-- 'linkboylaw38.ProxyAnswers': WHATEVER THE INPUT: true; the input reads as it did. -/
def proxyAnswersSpec : ChangeSpec := { name := "proxyAnswers", fn := fun _ => fun
  | [d1, d2, d3, d4] => { results := [.lit (.bool true)], args := [d1, d2, d3, d4] }
  | _ => none }
def proxyAnswersRow : OpenClaim := { program := "yteodjajjlgekcaadoor", sum := "97e32996073f18f70244c2bfcf8409f3958e7706bf1066a1b071377d2c6a283e", func := "linkboy/linkboylaw38.ProxyAnswers", spec := "proxyAnswers", inPlace := ["internal/bytealg.MakeNoZero"], named := ["linkboy/cookie.sizes"], apart := false, laid := [("linkboy/cookie.sizes", laid_linkboy_cookie_sizes)] }
def ProxyAnswersSaid : Prop := proxyAnswersRow.holds Tryd.pinned (OpenSpec.ofChange proxyAnswersSpec)

/-- ITS FALSE NEIGHBOUR: 'it returns false'. Refute it at one input. -/
def proxyAnswersWrong : ChangeSpec := { name := "proxyAnswers", fn := fun _ => fun
  | [d1, d2, d3, d4] => { results := [.lit (.bool false)], args := [d1, d2, d3, d4] }
  | _ => none }
def ProxyAnswersWrongFalsely : Prop := proxyAnswersRow.holds Tryd.pinned (OpenSpec.ofChange proxyAnswersWrong)

/- THE SECOND FORM. 'bulk': how many values and letters a reading holds, each counted each time it is reached (what is shared counts as often as it is met; a slice's spare places count too). A statement '..UptoSaid' is the law's where the arguments, and the package variables that the reading takes, are together of bulk at most 1048576: NARROWER than '..Said'. Prove '..Said' where nothing that the law and all that it calls make is longer than what came in: it says more and counts as full. Else prove '..UptoSaid'. A law counts once. -/
mutual
def uptoBulk {H : Type} : DataW H → Nat
  | .lit (.string bytes) => bytes.length + 1
  | .lit _ => 1
  | .nil => 1
  | .ptr d => uptoBulk d + 1
  | .slice elems spare => uptoBulkAll elems + uptoBulkAll spare + 1
  | .agg parts => uptoBulkAll parts + 1
  | .iface _ d => uptoBulk d + 1
  | .map entries => uptoBulkEntries entries + 1
  | .held _ => 1
def uptoBulkAll {H : Type} : List (DataW H) → Nat
  | [] => 0
  | d :: r => uptoBulk d + uptoBulkAll r
def uptoBulkEntries {H : Type} : List (Lit × DataW H) → Nat
  | [] => 0
  | x :: r => uptoBulkEntry x + uptoBulkEntries r
def uptoBulkEntry {H : Type} : Lit × DataW H → Nat
  | (.string bytes, d) => bytes.length + uptoBulk d + 1
  | (_, d) => uptoBulk d + 1
 end
def uptoSmall : (H : Type) → List (DataW H) → Bool := fun _ ds => decide (uptoBulkAll ds ≤ 1048576)
def OpenSpec.upto (s : _root_.Go.ChangeSpec) : _root_.Go.OpenSpec := { _root_.Go.OpenSpec.ofChange s with cond := some uptoSmall }

/-- 'linkboylaw27.CookieMakes', WHERE WHAT IT READS IS OF BULK AT MOST 1048576: true; the input reads as it did. -/
def cookieMakesUptoRow : OpenClaim := { program := "yteodjajjlgekcaadoor", sum := "97e32996073f18f70244c2bfcf8409f3958e7706bf1066a1b071377d2c6a283e", func := "linkboy/linkboylaw27.CookieMakes", spec := "cookieMakes", inPlace := ["internal/bytealg.MakeNoZero"], named := ["linkboy/cookie.sizes"], apart := false, laid := [("linkboy/cookie.sizes", laid_linkboy_cookie_sizes)], narrowed := true }
def CookieMakesUptoSaid : Prop := cookieMakesUptoRow.holds Tryd.pinned (OpenSpec.upto cookieMakesSpec)

/-- 'linkboylaw27.CookieRight', WHERE WHAT IT READS IS OF BULK AT MOST 1048576: true; the input reads as it did. -/
def cookieRightUptoRow : OpenClaim := { program := "yteodjajjlgekcaadoor", sum := "97e32996073f18f70244c2bfcf8409f3958e7706bf1066a1b071377d2c6a283e", func := "linkboy/linkboylaw27.CookieRight", spec := "cookieRight", inPlace := ["internal/bytealg.MakeNoZero"], named := ["linkboy/cookie.sizes"], apart := false, laid := [("linkboy/cookie.sizes", laid_linkboy_cookie_sizes)], narrowed := true }
def CookieRightUptoSaid : Prop := cookieRightUptoRow.holds Tryd.pinned (OpenSpec.upto cookieRightSpec)

/-- 'linkboylaw27.CookieLasts', WHERE WHAT IT READS IS OF BULK AT MOST 1048576: true; the input reads as it did. -/
def cookieLastsUptoRow : OpenClaim := { program := "yteodjajjlgekcaadoor", sum := "97e32996073f18f70244c2bfcf8409f3958e7706bf1066a1b071377d2c6a283e", func := "linkboy/linkboylaw27.CookieLasts", spec := "cookieLasts", inPlace := ["internal/bytealg.MakeNoZero"], named := ["linkboy/cookie.sizes"], apart := false, laid := [("linkboy/cookie.sizes", laid_linkboy_cookie_sizes)], narrowed := true }
def CookieLastsUptoSaid : Prop := cookieLastsUptoRow.holds Tryd.pinned (OpenSpec.upto cookieLastsSpec)

/-- 'linkboylaw38.ProxyOffers', WHERE WHAT IT READS IS OF BULK AT MOST 1048576: true; the input reads as it did. -/
def proxyOffersUptoRow : OpenClaim := { program := "yteodjajjlgekcaadoor", sum := "97e32996073f18f70244c2bfcf8409f3958e7706bf1066a1b071377d2c6a283e", func := "linkboy/linkboylaw38.ProxyOffers", spec := "proxyOffers", inPlace := ["internal/bytealg.MakeNoZero"], named := ["linkboy/cookie.sizes"], apart := false, laid := [("linkboy/cookie.sizes", laid_linkboy_cookie_sizes)], narrowed := true }
def ProxyOffersUptoSaid : Prop := proxyOffersUptoRow.holds Tryd.pinned (OpenSpec.upto proxyOffersSpec)

/-- 'linkboylaw38.ProxyJoins', WHERE WHAT IT READS IS OF BULK AT MOST 1048576: true; the input reads as it did. -/
def proxyJoinsUptoRow : OpenClaim := { program := "yteodjajjlgekcaadoor", sum := "97e32996073f18f70244c2bfcf8409f3958e7706bf1066a1b071377d2c6a283e", func := "linkboy/linkboylaw38.ProxyJoins", spec := "proxyJoins", inPlace := ["internal/bytealg.MakeNoZero"], named := ["linkboy/cookie.sizes"], apart := false, laid := [("linkboy/cookie.sizes", laid_linkboy_cookie_sizes)], narrowed := true }
def ProxyJoinsUptoSaid : Prop := proxyJoinsUptoRow.holds Tryd.pinned (OpenSpec.upto proxyJoinsSpec)

/-- 'linkboylaw38.ProxyAnswers', WHERE WHAT IT READS IS OF BULK AT MOST 1048576: true; the input reads as it did. -/
def proxyAnswersUptoRow : OpenClaim := { program := "yteodjajjlgekcaadoor", sum := "97e32996073f18f70244c2bfcf8409f3958e7706bf1066a1b071377d2c6a283e", func := "linkboy/linkboylaw38.ProxyAnswers", spec := "proxyAnswers", inPlace := ["internal/bytealg.MakeNoZero"], named := ["linkboy/cookie.sizes"], apart := false, laid := [("linkboy/cookie.sizes", laid_linkboy_cookie_sizes)], narrowed := true }
def ProxyAnswersUptoSaid : Prop := proxyAnswersUptoRow.holds Tryd.pinned (OpenSpec.upto proxyAnswersSpec)

end Rows
end Go.Proofs.YteodjajjlgekcaaDoor
