/-
  DERIVED. GIVEN WITH THE SEED: THE CARDS: each row of YtjfpmadnlpcpfaaDoorRows.lean that lists a variable, with what it lists TIED to the program's text (the seventh form; the later family's looks); each row that meets fmt, with fmt's text TOLD by the authors' own Lean function (tested against real Go, not proved from fmt's source: count such statements apart). THE CARD IS WHAT COUNTS. Prove the row's statement (the work); the ties are given (YtjfpmadnlpcpfaaDoorTie.lean); close each card by the builder's one call (the guide's Derived/Test/ToyasCard.lean, 'card_holds'). Laid BY PROGRAM, IN A SANDBOX (cutbox-door.mjs). By AI agents, Wed Nov 11 2026. No macro, syntax, notation, axiom, sorry.
-/
import Derived.Test.YtjfpmadnlpcpfaaDoorRows
import GoSem.ClaimSeven
namespace Go.Proofs.YtjfpmadnlpcpfaaDoor
namespace Rows

/-- THE TIED CARD OF 'chatelainelaw05.CodecPutKey'. -/
def codecPutKeyCard : Claim7 := { stood := { row := codecPutKeyRow, standIns := [], harness := (true, "25e348447e4e504b0a5321c7b4ba1d2afa8e6e5dbdcd6f24bfdde395b074e505"), looks := true }, kinds := [], alts := [], laidByText := true, laidKinds := [.data], laidTests := true, laidLooks := .later }
def CodecPutKeyCardSaid : Prop := Claim7.holds Tryd.pinned (.plain (OpenSpec.ofChange codecPutKeySpec)) codecPutKeyCard

/-- THE TIED CARD OF 'chatelainelaw05.CodecGetKey'. -/
def codecGetKeyCard : Claim7 := { stood := { row := codecGetKeyRow, standIns := [], harness := (true, "25e348447e4e504b0a5321c7b4ba1d2afa8e6e5dbdcd6f24bfdde395b074e505"), looks := true }, kinds := [], alts := [], laidByText := true, laidKinds := [.data], laidTests := true, laidLooks := .later }
def CodecGetKeyCardSaid : Prop := Claim7.holds Tryd.pinned (.plain (OpenSpec.ofChange codecGetKeySpec)) codecGetKeyCard

/-- THE TIED CARD OF 'chatelainelaw05.CodecPut'. -/
def codecPutCard : Claim7 := { stood := { row := codecPutRow, standIns := [], harness := (true, "25e348447e4e504b0a5321c7b4ba1d2afa8e6e5dbdcd6f24bfdde395b074e505"), looks := true }, kinds := [], alts := [], laidByText := true, laidKinds := [.data], laidTests := true, laidLooks := .later }
def CodecPutCardSaid : Prop := Claim7.holds Tryd.pinned (.plain (OpenSpec.ofChange codecPutSpec)) codecPutCard

/-- THE TIED CARD OF 'chatelainelaw05.CodecGet'. -/
def codecGetCard : Claim7 := { stood := { row := codecGetRow, standIns := [], harness := (true, "25e348447e4e504b0a5321c7b4ba1d2afa8e6e5dbdcd6f24bfdde395b074e505"), looks := true }, kinds := [], alts := [], laidByText := true, laidKinds := [.data], laidTests := true, laidLooks := .later }
def CodecGetCardSaid : Prop := Claim7.holds Tryd.pinned (.plain (OpenSpec.ofChange codecGetSpec)) codecGetCard

/-- THE TIED CARD OF 'chatelainelaw05.CodecSealed'. -/
def codecSealedCard : Claim7 := { stood := { row := codecSealedRow, standIns := [], harness := (true, "25e348447e4e504b0a5321c7b4ba1d2afa8e6e5dbdcd6f24bfdde395b074e505"), looks := true }, kinds := [], alts := [], laidByText := true, laidKinds := [.data], laidTests := true, laidLooks := .later }
def CodecSealedCardSaid : Prop := Claim7.holds Tryd.pinned (.plain (OpenSpec.ofChange codecSealedSpec)) codecSealedCard

/-- THE TIED CARD OF 'chatelainelaw05.CodecKeys'. -/
def codecKeysCard : Claim7 := { stood := { row := codecKeysRow, standIns := [], harness := (true, "25e348447e4e504b0a5321c7b4ba1d2afa8e6e5dbdcd6f24bfdde395b074e505"), looks := true }, kinds := [], alts := [], laidByText := true, laidKinds := [.data], laidTests := true, laidLooks := .later }
def CodecKeysCardSaid : Prop := Claim7.holds Tryd.pinned (.plain (OpenSpec.ofChange codecKeysSpec)) codecKeysCard

/-- THE TIED CARD OF 'chatelainelaw05.CodecSlots'. -/
def codecSlotsCard : Claim7 := { stood := { row := codecSlotsRow, standIns := [], harness := (true, "25e348447e4e504b0a5321c7b4ba1d2afa8e6e5dbdcd6f24bfdde395b074e505"), looks := true }, kinds := [], alts := [], laidByText := true, laidKinds := [.data], laidTests := true, laidLooks := .later }
def CodecSlotsCardSaid : Prop := Claim7.holds Tryd.pinned (.plain (OpenSpec.ofChange codecSlotsSpec)) codecSlotsCard

/-- THE TIED CARD OF 'chatelainelaw05.CodecBack'. -/
def codecBackCard : Claim7 := { stood := { row := codecBackRow, standIns := [], harness := (true, "25e348447e4e504b0a5321c7b4ba1d2afa8e6e5dbdcd6f24bfdde395b074e505"), looks := true }, kinds := [], alts := [], laidByText := true, laidKinds := [.data], laidTests := true, laidLooks := .later }
def CodecBackCardSaid : Prop := Claim7.holds Tryd.pinned (.plain (OpenSpec.ofChange codecBackSpec)) codecBackCard

/-- THE SECOND FORM's CARD OF 'chatelainelaw05.CodecPutKey'. -/
def codecPutKeyUptoCard : Claim7 := { stood := { row := codecPutKeyUptoRow, standIns := [], harness := (true, "25e348447e4e504b0a5321c7b4ba1d2afa8e6e5dbdcd6f24bfdde395b074e505"), looks := true }, kinds := [], alts := [], laidByText := true, laidKinds := [.data], laidTests := true, laidLooks := .later }
def CodecPutKeyUptoCardSaid : Prop := Claim7.holds Tryd.pinned (.plain (OpenSpec.upto codecPutKeySpec)) codecPutKeyUptoCard

/-- THE SECOND FORM's CARD OF 'chatelainelaw05.CodecGetKey'. -/
def codecGetKeyUptoCard : Claim7 := { stood := { row := codecGetKeyUptoRow, standIns := [], harness := (true, "25e348447e4e504b0a5321c7b4ba1d2afa8e6e5dbdcd6f24bfdde395b074e505"), looks := true }, kinds := [], alts := [], laidByText := true, laidKinds := [.data], laidTests := true, laidLooks := .later }
def CodecGetKeyUptoCardSaid : Prop := Claim7.holds Tryd.pinned (.plain (OpenSpec.upto codecGetKeySpec)) codecGetKeyUptoCard

/-- THE SECOND FORM's CARD OF 'chatelainelaw05.CodecPut'. -/
def codecPutUptoCard : Claim7 := { stood := { row := codecPutUptoRow, standIns := [], harness := (true, "25e348447e4e504b0a5321c7b4ba1d2afa8e6e5dbdcd6f24bfdde395b074e505"), looks := true }, kinds := [], alts := [], laidByText := true, laidKinds := [.data], laidTests := true, laidLooks := .later }
def CodecPutUptoCardSaid : Prop := Claim7.holds Tryd.pinned (.plain (OpenSpec.upto codecPutSpec)) codecPutUptoCard

/-- THE SECOND FORM's CARD OF 'chatelainelaw05.CodecGet'. -/
def codecGetUptoCard : Claim7 := { stood := { row := codecGetUptoRow, standIns := [], harness := (true, "25e348447e4e504b0a5321c7b4ba1d2afa8e6e5dbdcd6f24bfdde395b074e505"), looks := true }, kinds := [], alts := [], laidByText := true, laidKinds := [.data], laidTests := true, laidLooks := .later }
def CodecGetUptoCardSaid : Prop := Claim7.holds Tryd.pinned (.plain (OpenSpec.upto codecGetSpec)) codecGetUptoCard

/-- THE SECOND FORM's CARD OF 'chatelainelaw05.CodecSealed'. -/
def codecSealedUptoCard : Claim7 := { stood := { row := codecSealedUptoRow, standIns := [], harness := (true, "25e348447e4e504b0a5321c7b4ba1d2afa8e6e5dbdcd6f24bfdde395b074e505"), looks := true }, kinds := [], alts := [], laidByText := true, laidKinds := [.data], laidTests := true, laidLooks := .later }
def CodecSealedUptoCardSaid : Prop := Claim7.holds Tryd.pinned (.plain (OpenSpec.upto codecSealedSpec)) codecSealedUptoCard

/-- THE SECOND FORM's CARD OF 'chatelainelaw05.CodecKeys'. -/
def codecKeysUptoCard : Claim7 := { stood := { row := codecKeysUptoRow, standIns := [], harness := (true, "25e348447e4e504b0a5321c7b4ba1d2afa8e6e5dbdcd6f24bfdde395b074e505"), looks := true }, kinds := [], alts := [], laidByText := true, laidKinds := [.data], laidTests := true, laidLooks := .later }
def CodecKeysUptoCardSaid : Prop := Claim7.holds Tryd.pinned (.plain (OpenSpec.upto codecKeysSpec)) codecKeysUptoCard

/-- THE SECOND FORM's CARD OF 'chatelainelaw05.CodecSlots'. -/
def codecSlotsUptoCard : Claim7 := { stood := { row := codecSlotsUptoRow, standIns := [], harness := (true, "25e348447e4e504b0a5321c7b4ba1d2afa8e6e5dbdcd6f24bfdde395b074e505"), looks := true }, kinds := [], alts := [], laidByText := true, laidKinds := [.data], laidTests := true, laidLooks := .later }
def CodecSlotsUptoCardSaid : Prop := Claim7.holds Tryd.pinned (.plain (OpenSpec.upto codecSlotsSpec)) codecSlotsUptoCard

/-- THE SECOND FORM's CARD OF 'chatelainelaw05.CodecBack'. -/
def codecBackUptoCard : Claim7 := { stood := { row := codecBackUptoRow, standIns := [], harness := (true, "25e348447e4e504b0a5321c7b4ba1d2afa8e6e5dbdcd6f24bfdde395b074e505"), looks := true }, kinds := [], alts := [], laidByText := true, laidKinds := [.data], laidTests := true, laidLooks := .later }
def CodecBackUptoCardSaid : Prop := Claim7.holds Tryd.pinned (.plain (OpenSpec.upto codecBackSpec)) codecBackUptoCard
end Rows
end Go.Proofs.YtjfpmadnlpcpfaaDoor
