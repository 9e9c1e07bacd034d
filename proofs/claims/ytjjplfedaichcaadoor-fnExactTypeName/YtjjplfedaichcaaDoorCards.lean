/-
  DERIVED. GIVEN WITH THE SEED: THE CARDS: each row of YtjjplfedaichcaaDoorRows.lean that lists a variable, with what it lists TIED to the program's text (the seventh form; the later family's looks); each row that meets fmt, with fmt's text TOLD by the authors' own Lean function (tested against real Go, not proved from fmt's source: count such statements apart). THE CARD IS WHAT COUNTS. Prove the row's statement (the work); the ties are given (YtjjplfedaichcaaDoorTie.lean); close each card by the builder's one call (the guide's Derived/Test/ToyasCard.lean, 'card_holds'). Laid BY PROGRAM, IN A SANDBOX (cutbox-door.mjs). By AI agents, Wed Nov 11 2026. No macro, syntax, notation, axiom, sorry.
-/
import Derived.Test.YtjjplfedaichcaaDoorRows
import GoSem.ClaimSeven
namespace Go.Proofs.YtjjplfedaichcaaDoor
namespace Rows

/-- THE TIED CARD OF 'laws.FnExactTypeName'. -/
def fnExactTypeNameCard : Claim7 := { stood := { row := fnExactTypeNameRow, standIns := [], harness := (true, "7074d64f0037f1e1e1af6ca9f847f430d3a0a1f2acaff8e8f925667082ccb6fb"), looks := false }, kinds := [], alts := [], laidByText := true, laidKinds := [.data], laidTests := true, laidLooks := .later }
def FnExactTypeNameCardSaid : Prop := Claim7.holds Tryd.pinned (.plain (OpenSpec.ofChange fnExactTypeNameSpec)) fnExactTypeNameCard

/-- THE SECOND FORM's CARD OF 'laws.FnExactTypeName'. -/
def fnExactTypeNameUptoCard : Claim7 := { stood := { row := fnExactTypeNameUptoRow, standIns := [], harness := (true, "7074d64f0037f1e1e1af6ca9f847f430d3a0a1f2acaff8e8f925667082ccb6fb"), looks := false }, kinds := [], alts := [], laidByText := true, laidKinds := [.data], laidTests := true, laidLooks := .later }
def FnExactTypeNameUptoCardSaid : Prop := Claim7.holds Tryd.pinned (.plain (OpenSpec.upto fnExactTypeNameSpec)) fnExactTypeNameUptoCard
end Rows
end Go.Proofs.YtjjplfedaichcaaDoor
