/-
  DERIVED. GIVEN WITH THE SEED: THE CARDS: each row of YtpgkbkbhhmfgnaaDoorRows.lean that lists a variable, with what it lists TIED to the program's text (the seventh form; the later family's looks); each row that meets fmt, with fmt's text TOLD by the authors' own Lean function (tested against real Go, not proved from fmt's source: count such statements apart). THE CARD IS WHAT COUNTS. Prove the row's statement (the work); the ties are given (YtpgkbkbhhmfgnaaDoorTie.lean); close each card by the builder's one call (the guide's Derived/Test/ToyasCard.lean, 'card_holds'). Laid BY PROGRAM, IN A SANDBOX (cutbox-door.mjs). By AI agents, Wed Nov 11 2026. No macro, syntax, notation, axiom, sorry.
-/
import Derived.Test.YtpgkbkbhhmfgnaaDoorRows
import GoSem.ClaimSeven
namespace Go.Proofs.YtpgkbkbhhmfgnaaDoor
namespace Rows

/-- THE TIED CARD OF 'laws.FnExactKeptOk'. -/
def fnExactKeptOkCard : Claim7 := { stood := { row := fnExactKeptOkRow, standIns := [], harness := (true, "b5fa20be8b5966b1f569da88eedb4cb60911f4a3b2700294e255170e7d782a29"), looks := false }, kinds := [], alts := [], laidByText := true, laidKinds := [.data, .pinned], laidTests := true, laidLooks := .later }
def FnExactKeptOkCardSaid : Prop := Claim7.holds Tryd.pinned (.plain (OpenSpec.ofChange fnExactKeptOkSpec)) fnExactKeptOkCard

/-- THE TIED CARD OF 'laws.FnExactSetKept'. -/
def fnExactSetKeptCard : Claim7 := { stood := { row := fnExactSetKeptRow, standIns := [], harness := (true, "b5fa20be8b5966b1f569da88eedb4cb60911f4a3b2700294e255170e7d782a29"), looks := false }, kinds := [], alts := [], laidByText := true, laidKinds := [.data, .pinned], laidTests := true, laidLooks := .later }
def FnExactSetKeptCardSaid : Prop := Claim7.holds Tryd.pinned (.plain (OpenSpec.ofChange fnExactSetKeptSpec)) fnExactSetKeptCard

/-- THE TIED CARD OF 'laws.FnExactKeptFor'. -/
def fnExactKeptForCard : Claim7 := { stood := { row := fnExactKeptForRow, standIns := [], harness := (true, "b5fa20be8b5966b1f569da88eedb4cb60911f4a3b2700294e255170e7d782a29"), looks := false }, kinds := [], alts := [], laidByText := true, laidKinds := [.data, .pinned], laidTests := true, laidLooks := .later }
def FnExactKeptForCardSaid : Prop := Claim7.holds Tryd.pinned (.plain (OpenSpec.ofChange fnExactKeptForSpec)) fnExactKeptForCard

/-- THE TIED CARD OF 'laws.FnExactNodeOk'. -/
def fnExactNodeOkCard : Claim7 := { stood := { row := fnExactNodeOkRow, standIns := [], harness := (true, "b5fa20be8b5966b1f569da88eedb4cb60911f4a3b2700294e255170e7d782a29"), looks := false }, kinds := [], alts := [], laidByText := true, laidKinds := [.data, .pinned], laidTests := true, laidLooks := .later }
def FnExactNodeOkCardSaid : Prop := Claim7.holds Tryd.pinned (.plain (OpenSpec.ofChange fnExactNodeOkSpec)) fnExactNodeOkCard

/-- THE SECOND FORM's CARD OF 'laws.FnExactKeptOk'. -/
def fnExactKeptOkUptoCard : Claim7 := { stood := { row := fnExactKeptOkUptoRow, standIns := [], harness := (true, "b5fa20be8b5966b1f569da88eedb4cb60911f4a3b2700294e255170e7d782a29"), looks := false }, kinds := [], alts := [], laidByText := true, laidKinds := [.data, .pinned], laidTests := true, laidLooks := .later }
def FnExactKeptOkUptoCardSaid : Prop := Claim7.holds Tryd.pinned (.plain (OpenSpec.upto fnExactKeptOkSpec)) fnExactKeptOkUptoCard

/-- THE SECOND FORM's CARD OF 'laws.FnExactSetKept'. -/
def fnExactSetKeptUptoCard : Claim7 := { stood := { row := fnExactSetKeptUptoRow, standIns := [], harness := (true, "b5fa20be8b5966b1f569da88eedb4cb60911f4a3b2700294e255170e7d782a29"), looks := false }, kinds := [], alts := [], laidByText := true, laidKinds := [.data, .pinned], laidTests := true, laidLooks := .later }
def FnExactSetKeptUptoCardSaid : Prop := Claim7.holds Tryd.pinned (.plain (OpenSpec.upto fnExactSetKeptSpec)) fnExactSetKeptUptoCard

/-- THE SECOND FORM's CARD OF 'laws.FnExactKeptFor'. -/
def fnExactKeptForUptoCard : Claim7 := { stood := { row := fnExactKeptForUptoRow, standIns := [], harness := (true, "b5fa20be8b5966b1f569da88eedb4cb60911f4a3b2700294e255170e7d782a29"), looks := false }, kinds := [], alts := [], laidByText := true, laidKinds := [.data, .pinned], laidTests := true, laidLooks := .later }
def FnExactKeptForUptoCardSaid : Prop := Claim7.holds Tryd.pinned (.plain (OpenSpec.upto fnExactKeptForSpec)) fnExactKeptForUptoCard

/-- THE SECOND FORM's CARD OF 'laws.FnExactNodeOk'. -/
def fnExactNodeOkUptoCard : Claim7 := { stood := { row := fnExactNodeOkUptoRow, standIns := [], harness := (true, "b5fa20be8b5966b1f569da88eedb4cb60911f4a3b2700294e255170e7d782a29"), looks := false }, kinds := [], alts := [], laidByText := true, laidKinds := [.data, .pinned], laidTests := true, laidLooks := .later }
def FnExactNodeOkUptoCardSaid : Prop := Claim7.holds Tryd.pinned (.plain (OpenSpec.upto fnExactNodeOkSpec)) fnExactNodeOkUptoCard
end Rows
end Go.Proofs.YtpgkbkbhhmfgnaaDoor
