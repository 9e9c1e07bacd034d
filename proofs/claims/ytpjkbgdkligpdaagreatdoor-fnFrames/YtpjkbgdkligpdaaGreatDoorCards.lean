/-
  DERIVED. GIVEN WITH THE SEED: THE CARDS: each row of YtpjkbgdkligpdaaGreatDoorRows.lean that lists a variable, with what it lists TIED to the program's text (the seventh form; the later family's looks); each row that meets fmt, with fmt's text TOLD by the authors' own Lean function (tested against real Go, not proved from fmt's source: count such statements apart). THE CARD IS WHAT COUNTS. Prove the row's statement (the work); the ties are given (YtpjkbgdkligpdaaGreatDoorTie.lean); close each card by the builder's one call (the guide's Derived/Test/ToyasCard.lean, 'card_holds'). Laid BY PROGRAM, IN A SANDBOX (cutbox-door.mjs). By AI agents, Wed Nov 11 2026. No macro, syntax, notation, axiom, sorry.
-/
import Derived.Test.YtpjkbgdkligpdaaGreatDoorRows
import GoSem.ClaimSeven
namespace Go.Proofs.YtpjkbgdkligpdaaGreatDoor
namespace Rows

/-- THE TIED CARD OF 'laws.FnPackets'. -/
def fnPacketsCard : Claim7 := { stood := { row := fnPacketsRow, standIns := [], harness := (true, "2b16502c22d7021fb92f6d7042d72405f3b010232c20f5527146ae4227b64081"), looks := true }, kinds := [], alts := [], laidByText := true, laidKinds := [.data], laidTests := true, laidLooks := .later }
def FnPacketsCardSaid : Prop := Claim7.holds Tryz.pinned (.plain (OpenSpec.ofChange fnPacketsSpec)) fnPacketsCard

/-- THE TIED CARD OF 'laws.FnReads'. -/
def fnReadsCard : Claim7 := { stood := { row := fnReadsRow, standIns := [], harness := (true, "2b16502c22d7021fb92f6d7042d72405f3b010232c20f5527146ae4227b64081"), looks := true }, kinds := [], alts := [], laidByText := true, laidKinds := [.handle], laidTests := true, laidLooks := .later }
def FnReadsCardSaid : Prop := Claim7.holds Tryz.pinned (.plain (OpenSpec.ofChange fnReadsSpec)) fnReadsCard

/-- THE TIED CARD OF 'laws.FnReadsBack'. -/
def fnReadsBackCard : Claim7 := { stood := { row := fnReadsBackRow, standIns := [], harness := (true, "2b16502c22d7021fb92f6d7042d72405f3b010232c20f5527146ae4227b64081"), looks := true }, kinds := [], alts := [], laidByText := true, laidKinds := [.handle], laidTests := true, laidLooks := .later }
def FnReadsBackCardSaid : Prop := Claim7.holds Tryz.pinned (.plain (OpenSpec.ofChange fnReadsBackSpec)) fnReadsBackCard

/-- THE TIED CARD OF 'laws.FnAll'. -/
def fnAllCard : Claim7 := { stood := { row := fnAllRow, standIns := [], harness := (true, "2b16502c22d7021fb92f6d7042d72405f3b010232c20f5527146ae4227b64081"), looks := true }, kinds := [], alts := [], laidByText := true, laidKinds := [.handle], laidTests := true, laidLooks := .later }
def FnAllCardSaid : Prop := Claim7.holds Tryz.pinned (.plain (OpenSpec.ofChange fnAllSpec)) fnAllCard

/-- THE TIED CARD OF 'laws.FnFrames'. -/
def fnFramesCard : Claim7 := { stood := { row := fnFramesRow, standIns := [], harness := (true, "2b16502c22d7021fb92f6d7042d72405f3b010232c20f5527146ae4227b64081"), looks := true }, kinds := [], alts := [], laidByText := true, laidKinds := [.handle], laidTests := true, laidLooks := .later }
def FnFramesCardSaid : Prop := Claim7.holds Tryz.pinned (.plain (OpenSpec.ofChange fnFramesSpec)) fnFramesCard

/-- THE TIED CARD OF 'laws.FnExactGetPacket'. -/
def fnExactGetPacketCard : Claim7 := { stood := { row := fnExactGetPacketRow, standIns := [], harness := (true, "2b16502c22d7021fb92f6d7042d72405f3b010232c20f5527146ae4227b64081"), looks := true }, kinds := [], alts := [], laidByText := true, laidKinds := [.handle], laidTests := true, laidLooks := .later }
def FnExactGetPacketCardSaid : Prop := Claim7.holds Tryz.pinned (.plain (OpenSpec.ofChange fnExactGetPacketSpec)) fnExactGetPacketCard

/-- THE TIED CARD OF 'laws.FnExactReadAll'. -/
def fnExactReadAllCard : Claim7 := { stood := { row := fnExactReadAllRow, standIns := [], harness := (true, "2b16502c22d7021fb92f6d7042d72405f3b010232c20f5527146ae4227b64081"), looks := true }, kinds := [], alts := [], laidByText := true, laidKinds := [.handle], laidTests := true, laidLooks := .later }
def FnExactReadAllCardSaid : Prop := Claim7.holds Tryz.pinned (.plain (OpenSpec.ofChange fnExactReadAllSpec)) fnExactReadAllCard

/-- THE TIED CARD OF 'laws.FnExactBufOk'. -/
def fnExactBufOkCard : Claim7 := { stood := { row := fnExactBufOkRow, standIns := [], harness := (true, "2b16502c22d7021fb92f6d7042d72405f3b010232c20f5527146ae4227b64081"), looks := true }, kinds := [], alts := [], laidByText := true, laidKinds := [.handle], laidTests := true, laidLooks := .later }
def FnExactBufOkCardSaid : Prop := Claim7.holds Tryz.pinned (.plain (OpenSpec.ofChange fnExactBufOkSpec)) fnExactBufOkCard

/-- THE TIED CARD OF 'laws.FnExactFeed'. -/
def fnExactFeedCard : Claim7 := { stood := { row := fnExactFeedRow, standIns := [], harness := (true, "2b16502c22d7021fb92f6d7042d72405f3b010232c20f5527146ae4227b64081"), looks := true }, kinds := [], alts := [], laidByText := true, laidKinds := [.handle], laidTests := true, laidLooks := .later }
def FnExactFeedCardSaid : Prop := Claim7.holds Tryz.pinned (.plain (OpenSpec.ofChange fnExactFeedSpec)) fnExactFeedCard

/-- THE TIED CARD OF 'laws.FnExactFeedAll'. -/
def fnExactFeedAllCard : Claim7 := { stood := { row := fnExactFeedAllRow, standIns := [], harness := (true, "2b16502c22d7021fb92f6d7042d72405f3b010232c20f5527146ae4227b64081"), looks := true }, kinds := [], alts := [], laidByText := true, laidKinds := [.handle], laidTests := true, laidLooks := .later }
def FnExactFeedAllCardSaid : Prop := Claim7.holds Tryz.pinned (.plain (OpenSpec.ofChange fnExactFeedAllSpec)) fnExactFeedAllCard

/-- THE SECOND FORM's CARD OF 'laws.FnPackets'. -/
def fnPacketsUptoCard : Claim7 := { stood := { row := fnPacketsUptoRow, standIns := [], harness := (true, "2b16502c22d7021fb92f6d7042d72405f3b010232c20f5527146ae4227b64081"), looks := true }, kinds := [], alts := [], laidByText := true, laidKinds := [.data], laidTests := true, laidLooks := .later }
def FnPacketsUptoCardSaid : Prop := Claim7.holds Tryz.pinned (.plain (OpenSpec.upto fnPacketsSpec)) fnPacketsUptoCard

/-- THE SECOND FORM's CARD OF 'laws.FnReads'. -/
def fnReadsUptoCard : Claim7 := { stood := { row := fnReadsUptoRow, standIns := [], harness := (true, "2b16502c22d7021fb92f6d7042d72405f3b010232c20f5527146ae4227b64081"), looks := true }, kinds := [], alts := [], laidByText := true, laidKinds := [.handle], laidTests := true, laidLooks := .later }
def FnReadsUptoCardSaid : Prop := Claim7.holds Tryz.pinned (.plain (OpenSpec.upto fnReadsSpec)) fnReadsUptoCard

/-- THE SECOND FORM's CARD OF 'laws.FnReadsBack'. -/
def fnReadsBackUptoCard : Claim7 := { stood := { row := fnReadsBackUptoRow, standIns := [], harness := (true, "2b16502c22d7021fb92f6d7042d72405f3b010232c20f5527146ae4227b64081"), looks := true }, kinds := [], alts := [], laidByText := true, laidKinds := [.handle], laidTests := true, laidLooks := .later }
def FnReadsBackUptoCardSaid : Prop := Claim7.holds Tryz.pinned (.plain (OpenSpec.upto fnReadsBackSpec)) fnReadsBackUptoCard

/-- THE SECOND FORM's CARD OF 'laws.FnAll'. -/
def fnAllUptoCard : Claim7 := { stood := { row := fnAllUptoRow, standIns := [], harness := (true, "2b16502c22d7021fb92f6d7042d72405f3b010232c20f5527146ae4227b64081"), looks := true }, kinds := [], alts := [], laidByText := true, laidKinds := [.handle], laidTests := true, laidLooks := .later }
def FnAllUptoCardSaid : Prop := Claim7.holds Tryz.pinned (.plain (OpenSpec.upto fnAllSpec)) fnAllUptoCard

/-- THE SECOND FORM's CARD OF 'laws.FnFrames'. -/
def fnFramesUptoCard : Claim7 := { stood := { row := fnFramesUptoRow, standIns := [], harness := (true, "2b16502c22d7021fb92f6d7042d72405f3b010232c20f5527146ae4227b64081"), looks := true }, kinds := [], alts := [], laidByText := true, laidKinds := [.handle], laidTests := true, laidLooks := .later }
def FnFramesUptoCardSaid : Prop := Claim7.holds Tryz.pinned (.plain (OpenSpec.upto fnFramesSpec)) fnFramesUptoCard

/-- THE SECOND FORM's CARD OF 'laws.FnExactGetPacket'. -/
def fnExactGetPacketUptoCard : Claim7 := { stood := { row := fnExactGetPacketUptoRow, standIns := [], harness := (true, "2b16502c22d7021fb92f6d7042d72405f3b010232c20f5527146ae4227b64081"), looks := true }, kinds := [], alts := [], laidByText := true, laidKinds := [.handle], laidTests := true, laidLooks := .later }
def FnExactGetPacketUptoCardSaid : Prop := Claim7.holds Tryz.pinned (.plain (OpenSpec.upto fnExactGetPacketSpec)) fnExactGetPacketUptoCard

/-- THE SECOND FORM's CARD OF 'laws.FnExactReadAll'. -/
def fnExactReadAllUptoCard : Claim7 := { stood := { row := fnExactReadAllUptoRow, standIns := [], harness := (true, "2b16502c22d7021fb92f6d7042d72405f3b010232c20f5527146ae4227b64081"), looks := true }, kinds := [], alts := [], laidByText := true, laidKinds := [.handle], laidTests := true, laidLooks := .later }
def FnExactReadAllUptoCardSaid : Prop := Claim7.holds Tryz.pinned (.plain (OpenSpec.upto fnExactReadAllSpec)) fnExactReadAllUptoCard

/-- THE SECOND FORM's CARD OF 'laws.FnExactBufOk'. -/
def fnExactBufOkUptoCard : Claim7 := { stood := { row := fnExactBufOkUptoRow, standIns := [], harness := (true, "2b16502c22d7021fb92f6d7042d72405f3b010232c20f5527146ae4227b64081"), looks := true }, kinds := [], alts := [], laidByText := true, laidKinds := [.handle], laidTests := true, laidLooks := .later }
def FnExactBufOkUptoCardSaid : Prop := Claim7.holds Tryz.pinned (.plain (OpenSpec.upto fnExactBufOkSpec)) fnExactBufOkUptoCard

/-- THE SECOND FORM's CARD OF 'laws.FnExactFeed'. -/
def fnExactFeedUptoCard : Claim7 := { stood := { row := fnExactFeedUptoRow, standIns := [], harness := (true, "2b16502c22d7021fb92f6d7042d72405f3b010232c20f5527146ae4227b64081"), looks := true }, kinds := [], alts := [], laidByText := true, laidKinds := [.handle], laidTests := true, laidLooks := .later }
def FnExactFeedUptoCardSaid : Prop := Claim7.holds Tryz.pinned (.plain (OpenSpec.upto fnExactFeedSpec)) fnExactFeedUptoCard

/-- THE SECOND FORM's CARD OF 'laws.FnExactFeedAll'. -/
def fnExactFeedAllUptoCard : Claim7 := { stood := { row := fnExactFeedAllUptoRow, standIns := [], harness := (true, "2b16502c22d7021fb92f6d7042d72405f3b010232c20f5527146ae4227b64081"), looks := true }, kinds := [], alts := [], laidByText := true, laidKinds := [.handle], laidTests := true, laidLooks := .later }
def FnExactFeedAllUptoCardSaid : Prop := Claim7.holds Tryz.pinned (.plain (OpenSpec.upto fnExactFeedAllSpec)) fnExactFeedAllUptoCard
end Rows
end Go.Proofs.YtpjkbgdkligpdaaGreatDoor
