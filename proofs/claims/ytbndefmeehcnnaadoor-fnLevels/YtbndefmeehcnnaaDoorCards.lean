/-
  DERIVED. GIVEN WITH THE SEED: THE CARDS: each row of YtbndefmeehcnnaaDoorRows.lean that lists a variable, with what it lists TIED to the program's text (the seventh form; the later family's looks); each row that meets fmt, with fmt's text TOLD by the authors' own Lean function (tested against real Go, not proved from fmt's source: count such statements apart). THE CARD IS WHAT COUNTS. Prove the row's statement (the work); the ties are given (YtbndefmeehcnnaaDoorTie.lean); close each card by the builder's one call (the guide's Derived/Test/ToyasCard.lean, 'card_holds'). Laid BY PROGRAM, IN A SANDBOX (cutbox-door.mjs). By AI agents, Wed Nov 11 2026. No macro, syntax, notation, axiom, sorry.
-/
import Derived.Test.YtbndefmeehcnnaaDoorRows
import GoSem.ClaimSeven
namespace Go.Proofs.YtbndefmeehcnnaaDoor
namespace Rows

/-- THE TIED CARD OF 'laws.FnLevels'. -/
def fnLevelsCard : Claim7 := { stood := { row := fnLevelsRow, standIns := [], harness := (true, "7899275200891ae45cab4b1e5f953734b06ffd5c12390c33b1f895eaf7eb727d"), looks := false }, kinds := [], alts := [], laidByText := true, laidKinds := [.data, .pinned], laidTests := true, laidLooks := .later }
def FnLevelsCardSaid : Prop := Claim7.holds Tryd.pinned (.plain (OpenSpec.ofChange fnLevelsSpec)) fnLevelsCard

/-- THE TIED CARD OF 'laws.FnExactLevels'. -/
def fnExactLevelsCard : Claim7 := { stood := { row := fnExactLevelsRow, standIns := [], harness := (true, "7899275200891ae45cab4b1e5f953734b06ffd5c12390c33b1f895eaf7eb727d"), looks := false }, kinds := [], alts := [], laidByText := true, laidKinds := [.data, .pinned], laidTests := true, laidLooks := .later }
def FnExactLevelsCardSaid : Prop := Claim7.holds Tryd.pinned (.plain (OpenSpec.ofChange fnExactLevelsSpec)) fnExactLevelsCard

/-- THE TIED CARD OF 'laws.FnExactTopicOk'. -/
def fnExactTopicOkCard : Claim7 := { stood := { row := fnExactTopicOkRow, standIns := [], harness := (true, "7899275200891ae45cab4b1e5f953734b06ffd5c12390c33b1f895eaf7eb727d"), looks := false }, kinds := [], alts := [], laidByText := true, laidKinds := [.data, .pinned], laidTests := true, laidLooks := .later }
def FnExactTopicOkCardSaid : Prop := Claim7.holds Tryd.pinned (.plain (OpenSpec.ofChange fnExactTopicOkSpec)) fnExactTopicOkCard

/-- THE TIED CARD OF 'laws.FnExactFilterOk'. -/
def fnExactFilterOkCard : Claim7 := { stood := { row := fnExactFilterOkRow, standIns := [], harness := (true, "7899275200891ae45cab4b1e5f953734b06ffd5c12390c33b1f895eaf7eb727d"), looks := false }, kinds := [], alts := [], laidByText := true, laidKinds := [.data, .pinned], laidTests := true, laidLooks := .later }
def FnExactFilterOkCardSaid : Prop := Claim7.holds Tryd.pinned (.plain (OpenSpec.ofChange fnExactFilterOkSpec)) fnExactFilterOkCard

/-- THE TIED CARD OF 'laws.FnExactWild'. -/
def fnExactWildCard : Claim7 := { stood := { row := fnExactWildRow, standIns := [], harness := (true, "7899275200891ae45cab4b1e5f953734b06ffd5c12390c33b1f895eaf7eb727d"), looks := false }, kinds := [], alts := [], laidByText := true, laidKinds := [.data, .pinned], laidTests := true, laidLooks := .later }
def FnExactWildCardSaid : Prop := Claim7.holds Tryd.pinned (.plain (OpenSpec.ofChange fnExactWildSpec)) fnExactWildCard

/-- THE SECOND FORM's CARD OF 'laws.FnLevels'. -/
def fnLevelsUptoCard : Claim7 := { stood := { row := fnLevelsUptoRow, standIns := [], harness := (true, "7899275200891ae45cab4b1e5f953734b06ffd5c12390c33b1f895eaf7eb727d"), looks := false }, kinds := [], alts := [], laidByText := true, laidKinds := [.data, .pinned], laidTests := true, laidLooks := .later }
def FnLevelsUptoCardSaid : Prop := Claim7.holds Tryd.pinned (.plain (OpenSpec.upto fnLevelsSpec)) fnLevelsUptoCard

/-- THE SECOND FORM's CARD OF 'laws.FnExactLevels'. -/
def fnExactLevelsUptoCard : Claim7 := { stood := { row := fnExactLevelsUptoRow, standIns := [], harness := (true, "7899275200891ae45cab4b1e5f953734b06ffd5c12390c33b1f895eaf7eb727d"), looks := false }, kinds := [], alts := [], laidByText := true, laidKinds := [.data, .pinned], laidTests := true, laidLooks := .later }
def FnExactLevelsUptoCardSaid : Prop := Claim7.holds Tryd.pinned (.plain (OpenSpec.upto fnExactLevelsSpec)) fnExactLevelsUptoCard

/-- THE SECOND FORM's CARD OF 'laws.FnExactTopicOk'. -/
def fnExactTopicOkUptoCard : Claim7 := { stood := { row := fnExactTopicOkUptoRow, standIns := [], harness := (true, "7899275200891ae45cab4b1e5f953734b06ffd5c12390c33b1f895eaf7eb727d"), looks := false }, kinds := [], alts := [], laidByText := true, laidKinds := [.data, .pinned], laidTests := true, laidLooks := .later }
def FnExactTopicOkUptoCardSaid : Prop := Claim7.holds Tryd.pinned (.plain (OpenSpec.upto fnExactTopicOkSpec)) fnExactTopicOkUptoCard

/-- THE SECOND FORM's CARD OF 'laws.FnExactFilterOk'. -/
def fnExactFilterOkUptoCard : Claim7 := { stood := { row := fnExactFilterOkUptoRow, standIns := [], harness := (true, "7899275200891ae45cab4b1e5f953734b06ffd5c12390c33b1f895eaf7eb727d"), looks := false }, kinds := [], alts := [], laidByText := true, laidKinds := [.data, .pinned], laidTests := true, laidLooks := .later }
def FnExactFilterOkUptoCardSaid : Prop := Claim7.holds Tryd.pinned (.plain (OpenSpec.upto fnExactFilterOkSpec)) fnExactFilterOkUptoCard

/-- THE SECOND FORM's CARD OF 'laws.FnExactWild'. -/
def fnExactWildUptoCard : Claim7 := { stood := { row := fnExactWildUptoRow, standIns := [], harness := (true, "7899275200891ae45cab4b1e5f953734b06ffd5c12390c33b1f895eaf7eb727d"), looks := false }, kinds := [], alts := [], laidByText := true, laidKinds := [.data, .pinned], laidTests := true, laidLooks := .later }
def FnExactWildUptoCardSaid : Prop := Claim7.holds Tryd.pinned (.plain (OpenSpec.upto fnExactWildSpec)) fnExactWildUptoCard
end Rows
end Go.Proofs.YtbndefmeehcnnaaDoor
