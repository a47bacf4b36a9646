/-
  DERIVED. GIVEN WITH THE SEED: THE CARDS: each row of YteodjajjlgekcaaDoorRows.lean that lists a variable, with what it lists TIED to the program's text (the seventh form; the later family's looks); each row that meets fmt, with fmt's text TOLD by the authors' own Lean function (tested against real Go, not proved from fmt's source: count such statements apart). THE CARD IS WHAT COUNTS. Prove the row's statement (the work); the ties are given (YteodjajjlgekcaaDoorTie.lean); close each card by the builder's one call (the guide's Derived/Test/ToyasCard.lean, 'card_holds'). Laid BY PROGRAM, IN A SANDBOX (cutbox-door.mjs). By AI agents, Wed Nov 11 2026. No macro, syntax, notation, axiom, sorry.
-/
import Derived.Test.YteodjajjlgekcaaDoorRows
import GoSem.ClaimSeven
namespace Go.Proofs.YteodjajjlgekcaaDoor
namespace Rows

/-- THE TIED CARD OF 'linkboylaw27.CookieMakes'. -/
def cookieMakesCard : Claim7 := { stood := { row := cookieMakesRow, standIns := [], harness := (true, "32bfc3cd738ba0eae6a8c6ce69dae6cf547782be29f3f00abc37ed9fb6bbbead"), looks := false }, kinds := [], alts := [], laidByText := true, laidKinds := [.data], laidTests := true, laidLooks := .later }
def CookieMakesCardSaid : Prop := Claim7.holds Tryd.pinned (.plain (OpenSpec.ofChange cookieMakesSpec)) cookieMakesCard

/-- THE TIED CARD OF 'linkboylaw27.CookieRight'. -/
def cookieRightCard : Claim7 := { stood := { row := cookieRightRow, standIns := [], harness := (true, "32bfc3cd738ba0eae6a8c6ce69dae6cf547782be29f3f00abc37ed9fb6bbbead"), looks := false }, kinds := [], alts := [], laidByText := true, laidKinds := [.data], laidTests := true, laidLooks := .later }
def CookieRightCardSaid : Prop := Claim7.holds Tryd.pinned (.plain (OpenSpec.ofChange cookieRightSpec)) cookieRightCard

/-- THE TIED CARD OF 'linkboylaw27.CookieLasts'. -/
def cookieLastsCard : Claim7 := { stood := { row := cookieLastsRow, standIns := [], harness := (true, "32bfc3cd738ba0eae6a8c6ce69dae6cf547782be29f3f00abc37ed9fb6bbbead"), looks := false }, kinds := [], alts := [], laidByText := true, laidKinds := [.data], laidTests := true, laidLooks := .later }
def CookieLastsCardSaid : Prop := Claim7.holds Tryd.pinned (.plain (OpenSpec.ofChange cookieLastsSpec)) cookieLastsCard

/-- THE TIED CARD OF 'linkboylaw38.ProxyOffers'. -/
def proxyOffersCard : Claim7 := { stood := { row := proxyOffersRow, standIns := [], harness := (true, "32bfc3cd738ba0eae6a8c6ce69dae6cf547782be29f3f00abc37ed9fb6bbbead"), looks := false }, kinds := [], alts := [], laidByText := true, laidKinds := [.data], laidTests := true, laidLooks := .later }
def ProxyOffersCardSaid : Prop := Claim7.holds Tryd.pinned (.plain (OpenSpec.ofChange proxyOffersSpec)) proxyOffersCard

/-- THE TIED CARD OF 'linkboylaw38.ProxyJoins'. -/
def proxyJoinsCard : Claim7 := { stood := { row := proxyJoinsRow, standIns := [], harness := (true, "32bfc3cd738ba0eae6a8c6ce69dae6cf547782be29f3f00abc37ed9fb6bbbead"), looks := false }, kinds := [], alts := [], laidByText := true, laidKinds := [.data], laidTests := true, laidLooks := .later }
def ProxyJoinsCardSaid : Prop := Claim7.holds Tryd.pinned (.plain (OpenSpec.ofChange proxyJoinsSpec)) proxyJoinsCard

/-- THE TIED CARD OF 'linkboylaw38.ProxyAnswers'. -/
def proxyAnswersCard : Claim7 := { stood := { row := proxyAnswersRow, standIns := [], harness := (true, "32bfc3cd738ba0eae6a8c6ce69dae6cf547782be29f3f00abc37ed9fb6bbbead"), looks := false }, kinds := [], alts := [], laidByText := true, laidKinds := [.data], laidTests := true, laidLooks := .later }
def ProxyAnswersCardSaid : Prop := Claim7.holds Tryd.pinned (.plain (OpenSpec.ofChange proxyAnswersSpec)) proxyAnswersCard

/-- THE SECOND FORM's CARD OF 'linkboylaw27.CookieMakes'. -/
def cookieMakesUptoCard : Claim7 := { stood := { row := cookieMakesUptoRow, standIns := [], harness := (true, "32bfc3cd738ba0eae6a8c6ce69dae6cf547782be29f3f00abc37ed9fb6bbbead"), looks := false }, kinds := [], alts := [], laidByText := true, laidKinds := [.data], laidTests := true, laidLooks := .later }
def CookieMakesUptoCardSaid : Prop := Claim7.holds Tryd.pinned (.plain (OpenSpec.upto cookieMakesSpec)) cookieMakesUptoCard

/-- THE SECOND FORM's CARD OF 'linkboylaw27.CookieRight'. -/
def cookieRightUptoCard : Claim7 := { stood := { row := cookieRightUptoRow, standIns := [], harness := (true, "32bfc3cd738ba0eae6a8c6ce69dae6cf547782be29f3f00abc37ed9fb6bbbead"), looks := false }, kinds := [], alts := [], laidByText := true, laidKinds := [.data], laidTests := true, laidLooks := .later }
def CookieRightUptoCardSaid : Prop := Claim7.holds Tryd.pinned (.plain (OpenSpec.upto cookieRightSpec)) cookieRightUptoCard

/-- THE SECOND FORM's CARD OF 'linkboylaw27.CookieLasts'. -/
def cookieLastsUptoCard : Claim7 := { stood := { row := cookieLastsUptoRow, standIns := [], harness := (true, "32bfc3cd738ba0eae6a8c6ce69dae6cf547782be29f3f00abc37ed9fb6bbbead"), looks := false }, kinds := [], alts := [], laidByText := true, laidKinds := [.data], laidTests := true, laidLooks := .later }
def CookieLastsUptoCardSaid : Prop := Claim7.holds Tryd.pinned (.plain (OpenSpec.upto cookieLastsSpec)) cookieLastsUptoCard

/-- THE SECOND FORM's CARD OF 'linkboylaw38.ProxyOffers'. -/
def proxyOffersUptoCard : Claim7 := { stood := { row := proxyOffersUptoRow, standIns := [], harness := (true, "32bfc3cd738ba0eae6a8c6ce69dae6cf547782be29f3f00abc37ed9fb6bbbead"), looks := false }, kinds := [], alts := [], laidByText := true, laidKinds := [.data], laidTests := true, laidLooks := .later }
def ProxyOffersUptoCardSaid : Prop := Claim7.holds Tryd.pinned (.plain (OpenSpec.upto proxyOffersSpec)) proxyOffersUptoCard

/-- THE SECOND FORM's CARD OF 'linkboylaw38.ProxyJoins'. -/
def proxyJoinsUptoCard : Claim7 := { stood := { row := proxyJoinsUptoRow, standIns := [], harness := (true, "32bfc3cd738ba0eae6a8c6ce69dae6cf547782be29f3f00abc37ed9fb6bbbead"), looks := false }, kinds := [], alts := [], laidByText := true, laidKinds := [.data], laidTests := true, laidLooks := .later }
def ProxyJoinsUptoCardSaid : Prop := Claim7.holds Tryd.pinned (.plain (OpenSpec.upto proxyJoinsSpec)) proxyJoinsUptoCard

/-- THE SECOND FORM's CARD OF 'linkboylaw38.ProxyAnswers'. -/
def proxyAnswersUptoCard : Claim7 := { stood := { row := proxyAnswersUptoRow, standIns := [], harness := (true, "32bfc3cd738ba0eae6a8c6ce69dae6cf547782be29f3f00abc37ed9fb6bbbead"), looks := false }, kinds := [], alts := [], laidByText := true, laidKinds := [.data], laidTests := true, laidLooks := .later }
def ProxyAnswersUptoCardSaid : Prop := Claim7.holds Tryd.pinned (.plain (OpenSpec.upto proxyAnswersSpec)) proxyAnswersUptoCard
end Rows
end Go.Proofs.YteodjajjlgekcaaDoor
