/-
  DERIVED. GIVEN WITH THE SEED: THE CARDS: each row of YtmpibbgciajnkaaDoorRows.lean that lists a variable, with what it lists TIED to the program's text (the seventh form; the later family's looks); each row that meets fmt, with fmt's text TOLD by the authors' own Lean function (tested against real Go, not proved from fmt's source: count such statements apart). THE CARD IS WHAT COUNTS. Prove the row's statement (the work); the ties are given (YtmpibbgciajnkaaDoorTie.lean); close each card by the builder's one call (the guide's Derived/Test/ToyasCard.lean, 'card_holds'). Laid BY PROGRAM, IN A SANDBOX (cutbox-door.mjs). By AI agents, Wed Nov 11 2026. No macro, syntax, notation, axiom, sorry.
-/
import Derived.Test.YtmpibbgciajnkaaDoorRows
import GoSem.ClaimSeven
namespace Go.Proofs.YtmpibbgciajnkaaDoor
namespace Rows

/-- THE TIED CARD OF 'chatelainelaw03.KeysCheck'. -/
def keysCheckCard : Claim7 := { stood := { row := keysCheckRow, standIns := [], harness := (true, "986350d813d21b21358d265b8d6ad398fa9715e323cdb616a96968068b6416b6"), looks := false }, kinds := [], alts := [], laidByText := true, laidKinds := [.data], laidTests := true, laidLooks := .later }
def KeysCheckCardSaid : Prop := Claim7.holds Tryd.pinned (.plain (OpenSpec.ofChange keysCheckSpec)) keysCheckCard

/-- THE TIED CARD OF 'chatelainelaw03.KeysMany'. -/
def keysManyCard : Claim7 := { stood := { row := keysManyRow, standIns := [], harness := (true, "986350d813d21b21358d265b8d6ad398fa9715e323cdb616a96968068b6416b6"), looks := false }, kinds := [], alts := [], laidByText := true, laidKinds := [.data], laidTests := true, laidLooks := .later }
def KeysManyCardSaid : Prop := Claim7.holds Tryd.pinned (.plain (OpenSpec.ofChange keysManySpec)) keysManyCard

/-- THE TIED CARD OF 'chatelainelaw03.KeysCounts'. -/
def keysCountsCard : Claim7 := { stood := { row := keysCountsRow, standIns := [], harness := (true, "986350d813d21b21358d265b8d6ad398fa9715e323cdb616a96968068b6416b6"), looks := false }, kinds := [], alts := [], laidByText := true, laidKinds := [.data], laidTests := true, laidLooks := .later }
def KeysCountsCardSaid : Prop := Claim7.holds Tryd.pinned (.plain (OpenSpec.ofChange keysCountsSpec)) keysCountsCard

/-- THE TIED CARD OF 'chatelainelaw03.KeysWeak'. -/
def keysWeakCard : Claim7 := { stood := { row := keysWeakRow, standIns := [], harness := (true, "986350d813d21b21358d265b8d6ad398fa9715e323cdb616a96968068b6416b6"), looks := false }, kinds := [], alts := [], laidByText := true, laidKinds := [.data], laidTests := true, laidLooks := .later }
def KeysWeakCardSaid : Prop := Claim7.holds Tryd.pinned (.plain (OpenSpec.ofChange keysWeakSpec)) keysWeakCard

/-- THE TIED CARD OF 'chatelainelaw03.KeysWithin'. -/
def keysWithinCard : Claim7 := { stood := { row := keysWithinRow, standIns := [], harness := (true, "986350d813d21b21358d265b8d6ad398fa9715e323cdb616a96968068b6416b6"), looks := false }, kinds := [], alts := [], laidByText := true, laidKinds := [.data], laidTests := true, laidLooks := .later }
def KeysWithinCardSaid : Prop := Claim7.holds Tryd.pinned (.plain (OpenSpec.ofChange keysWithinSpec)) keysWithinCard

/-- THE TIED CARD OF 'chatelainelaw03.KeysOrders'. -/
def keysOrdersCard : Claim7 := { stood := { row := keysOrdersRow, standIns := [], harness := (true, "986350d813d21b21358d265b8d6ad398fa9715e323cdb616a96968068b6416b6"), looks := false }, kinds := [], alts := [], laidByText := true, laidKinds := [.data], laidTests := true, laidLooks := .later }
def KeysOrdersCardSaid : Prop := Claim7.holds Tryd.pinned (.plain (OpenSpec.ofChange keysOrdersSpec)) keysOrdersCard

/-- THE TIED CARD OF 'chatelainelaw03.KeysText'. -/
def keysTextCard : Claim7 := { stood := { row := keysTextRow, standIns := [], harness := (true, "986350d813d21b21358d265b8d6ad398fa9715e323cdb616a96968068b6416b6"), looks := false }, kinds := [], alts := [], laidByText := true, laidKinds := [.data, .data, .data, .data], laidTests := true, laidLooks := .later }
def KeysTextCardSaid : Prop := Claim7.holds Tryd.pinned (.plain (OpenSpec.ofChange keysTextSpec)) keysTextCard

/-- THE TIED CARD OF 'chatelainelaw03.KeysOrder'. -/
def keysOrderCard : Claim7 := { stood := { row := keysOrderRow, standIns := [], harness := (true, "986350d813d21b21358d265b8d6ad398fa9715e323cdb616a96968068b6416b6"), looks := false }, kinds := [], alts := [], laidByText := true, laidKinds := [.data], laidTests := true, laidLooks := .later }
def KeysOrderCardSaid : Prop := Claim7.holds Tryd.pinned (.plain (OpenSpec.ofChange keysOrderSpec)) keysOrderCard

/-- THE TIED CARD OF 'chatelainelaw03.KeysRights'. -/
def keysRightsCard : Claim7 := { stood := { row := keysRightsRow, standIns := [], harness := (true, "986350d813d21b21358d265b8d6ad398fa9715e323cdb616a96968068b6416b6"), looks := false }, kinds := [], alts := [], laidByText := true, laidKinds := [.data], laidTests := true, laidLooks := .later }
def KeysRightsCardSaid : Prop := Claim7.holds Tryd.pinned (.plain (OpenSpec.ofChange keysRightsSpec)) keysRightsCard

/-- THE SECOND FORM's CARD OF 'chatelainelaw03.KeysCheck'. -/
def keysCheckUptoCard : Claim7 := { stood := { row := keysCheckUptoRow, standIns := [], harness := (true, "986350d813d21b21358d265b8d6ad398fa9715e323cdb616a96968068b6416b6"), looks := false }, kinds := [], alts := [], laidByText := true, laidKinds := [.data], laidTests := true, laidLooks := .later }
def KeysCheckUptoCardSaid : Prop := Claim7.holds Tryd.pinned (.plain (OpenSpec.upto keysCheckSpec)) keysCheckUptoCard

/-- THE SECOND FORM's CARD OF 'chatelainelaw03.KeysMany'. -/
def keysManyUptoCard : Claim7 := { stood := { row := keysManyUptoRow, standIns := [], harness := (true, "986350d813d21b21358d265b8d6ad398fa9715e323cdb616a96968068b6416b6"), looks := false }, kinds := [], alts := [], laidByText := true, laidKinds := [.data], laidTests := true, laidLooks := .later }
def KeysManyUptoCardSaid : Prop := Claim7.holds Tryd.pinned (.plain (OpenSpec.upto keysManySpec)) keysManyUptoCard

/-- THE SECOND FORM's CARD OF 'chatelainelaw03.KeysCounts'. -/
def keysCountsUptoCard : Claim7 := { stood := { row := keysCountsUptoRow, standIns := [], harness := (true, "986350d813d21b21358d265b8d6ad398fa9715e323cdb616a96968068b6416b6"), looks := false }, kinds := [], alts := [], laidByText := true, laidKinds := [.data], laidTests := true, laidLooks := .later }
def KeysCountsUptoCardSaid : Prop := Claim7.holds Tryd.pinned (.plain (OpenSpec.upto keysCountsSpec)) keysCountsUptoCard

/-- THE SECOND FORM's CARD OF 'chatelainelaw03.KeysWeak'. -/
def keysWeakUptoCard : Claim7 := { stood := { row := keysWeakUptoRow, standIns := [], harness := (true, "986350d813d21b21358d265b8d6ad398fa9715e323cdb616a96968068b6416b6"), looks := false }, kinds := [], alts := [], laidByText := true, laidKinds := [.data], laidTests := true, laidLooks := .later }
def KeysWeakUptoCardSaid : Prop := Claim7.holds Tryd.pinned (.plain (OpenSpec.upto keysWeakSpec)) keysWeakUptoCard

/-- THE SECOND FORM's CARD OF 'chatelainelaw03.KeysWithin'. -/
def keysWithinUptoCard : Claim7 := { stood := { row := keysWithinUptoRow, standIns := [], harness := (true, "986350d813d21b21358d265b8d6ad398fa9715e323cdb616a96968068b6416b6"), looks := false }, kinds := [], alts := [], laidByText := true, laidKinds := [.data], laidTests := true, laidLooks := .later }
def KeysWithinUptoCardSaid : Prop := Claim7.holds Tryd.pinned (.plain (OpenSpec.upto keysWithinSpec)) keysWithinUptoCard

/-- THE SECOND FORM's CARD OF 'chatelainelaw03.KeysOrders'. -/
def keysOrdersUptoCard : Claim7 := { stood := { row := keysOrdersUptoRow, standIns := [], harness := (true, "986350d813d21b21358d265b8d6ad398fa9715e323cdb616a96968068b6416b6"), looks := false }, kinds := [], alts := [], laidByText := true, laidKinds := [.data], laidTests := true, laidLooks := .later }
def KeysOrdersUptoCardSaid : Prop := Claim7.holds Tryd.pinned (.plain (OpenSpec.upto keysOrdersSpec)) keysOrdersUptoCard

/-- THE SECOND FORM's CARD OF 'chatelainelaw03.KeysText'. -/
def keysTextUptoCard : Claim7 := { stood := { row := keysTextUptoRow, standIns := [], harness := (true, "986350d813d21b21358d265b8d6ad398fa9715e323cdb616a96968068b6416b6"), looks := false }, kinds := [], alts := [], laidByText := true, laidKinds := [.data, .data, .data, .data], laidTests := true, laidLooks := .later }
def KeysTextUptoCardSaid : Prop := Claim7.holds Tryd.pinned (.plain (OpenSpec.upto keysTextSpec)) keysTextUptoCard

/-- THE SECOND FORM's CARD OF 'chatelainelaw03.KeysOrder'. -/
def keysOrderUptoCard : Claim7 := { stood := { row := keysOrderUptoRow, standIns := [], harness := (true, "986350d813d21b21358d265b8d6ad398fa9715e323cdb616a96968068b6416b6"), looks := false }, kinds := [], alts := [], laidByText := true, laidKinds := [.data], laidTests := true, laidLooks := .later }
def KeysOrderUptoCardSaid : Prop := Claim7.holds Tryd.pinned (.plain (OpenSpec.upto keysOrderSpec)) keysOrderUptoCard

/-- THE SECOND FORM's CARD OF 'chatelainelaw03.KeysRights'. -/
def keysRightsUptoCard : Claim7 := { stood := { row := keysRightsUptoRow, standIns := [], harness := (true, "986350d813d21b21358d265b8d6ad398fa9715e323cdb616a96968068b6416b6"), looks := false }, kinds := [], alts := [], laidByText := true, laidKinds := [.data], laidTests := true, laidLooks := .later }
def KeysRightsUptoCardSaid : Prop := Claim7.holds Tryd.pinned (.plain (OpenSpec.upto keysRightsSpec)) keysRightsUptoCard
end Rows
end Go.Proofs.YtmpibbgciajnkaaDoor
