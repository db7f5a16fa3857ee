/-
  DERIVED. GIVEN WITH THE SEED: THE CARDS: each row of YtogkdhpnbpgheaaGreatDoorRows.lean that lists a variable, with what it lists TIED to the program's text (the seventh form; the later family's looks); each row that meets fmt, with fmt's text TOLD by the authors' own Lean function (tested against real Go, not proved from fmt's source: count such statements apart). THE CARD IS WHAT COUNTS. Prove the row's statement (the work); the ties are given (YtogkdhpnbpgheaaGreatDoorTie.lean); close each card by the builder's one call (the guide's Derived/Test/ToyasCard.lean, 'card_holds'). Laid BY PROGRAM, IN A SANDBOX (cutbox-door.mjs). By AI agents, Wed Nov 11 2026. No macro, syntax, notation, axiom, sorry.
-/
import Derived.Test.YtogkdhpnbpgheaaGreatDoorRows
import GoSem.ClaimSeven
namespace Go.Proofs.YtogkdhpnbpgheaaGreatDoor
namespace Rows

/-- THE TIED CARD OF 'chatelainelaw14.OrdersPlay'. -/
def ordersPlayCard : Claim7 := { stood := { row := ordersPlayRow, standIns := [], harness := (true, "f48482fd128aa4681aef46b86733639887bec049e119d551c121d648e433d0e6"), looks := true }, kinds := [], alts := [], laidByText := true, laidKinds := [.data], laidTests := true, laidLooks := .later }
def OrdersPlayCardSaid : Prop := Claim7.holds Tryz.pinned (.plain (OpenSpec.ofChange ordersPlaySpec)) ordersPlayCard

/-- THE TIED CARD OF 'chatelainelaw14.OrdersOne'. -/
def ordersOneCard : Claim7 := { stood := { row := ordersOneRow, standIns := [], harness := (true, "f48482fd128aa4681aef46b86733639887bec049e119d551c121d648e433d0e6"), looks := true }, kinds := [], alts := [], laidByText := true, laidKinds := [.data], laidTests := true, laidLooks := .later }
def OrdersOneCardSaid : Prop := Claim7.holds Tryz.pinned (.plain (OpenSpec.ofChange ordersOneSpec)) ordersOneCard

/-- THE TIED CARD OF 'chatelainelaw14.OrdersCodes'. -/
def ordersCodesCard : Claim7 := { stood := { row := ordersCodesRow, standIns := [], harness := (true, "f48482fd128aa4681aef46b86733639887bec049e119d551c121d648e433d0e6"), looks := true }, kinds := [], alts := [], laidByText := true, laidKinds := [.data], laidTests := true, laidLooks := .later }
def OrdersCodesCardSaid : Prop := Claim7.holds Tryz.pinned (.plain (OpenSpec.ofChange ordersCodesSpec)) ordersCodesCard

/-- THE TIED CARD OF 'chatelainelaw14.OrdersWithin'. -/
def ordersWithinCard : Claim7 := { stood := { row := ordersWithinRow, standIns := [], harness := (true, "f48482fd128aa4681aef46b86733639887bec049e119d551c121d648e433d0e6"), looks := true }, kinds := [], alts := [], laidByText := true, laidKinds := [.data], laidTests := true, laidLooks := .later }
def OrdersWithinCardSaid : Prop := Claim7.holds Tryz.pinned (.plain (OpenSpec.ofChange ordersWithinSpec)) ordersWithinCard

/-- THE TIED CARD OF 'chatelainelaw14.OrdersNil'. -/
def ordersNilCard : Claim7 := { stood := { row := ordersNilRow, standIns := [], harness := (true, "f48482fd128aa4681aef46b86733639887bec049e119d551c121d648e433d0e6"), looks := true }, kinds := [], alts := [], laidByText := true, laidKinds := [.data], laidTests := true, laidLooks := .later }
def OrdersNilCardSaid : Prop := Claim7.holds Tryz.pinned (.plain (OpenSpec.ofChange ordersNilSpec)) ordersNilCard

/-- THE TIED CARD OF 'chatelainelaw14.OrdersKinds'. -/
def ordersKindsCard : Claim7 := { stood := { row := ordersKindsRow, standIns := [], harness := (true, "f48482fd128aa4681aef46b86733639887bec049e119d551c121d648e433d0e6"), looks := true }, kinds := [], alts := [], laidByText := true, laidKinds := [.data], laidTests := true, laidLooks := .later }
def OrdersKindsCardSaid : Prop := Claim7.holds Tryz.pinned (.plain (OpenSpec.ofChange ordersKindsSpec)) ordersKindsCard

/-- THE TIED CARD OF 'chatelainelaw14.OrdersSpaces'. -/
def ordersSpacesCard : Claim7 := { stood := { row := ordersSpacesRow, standIns := [], harness := (true, "f48482fd128aa4681aef46b86733639887bec049e119d551c121d648e433d0e6"), looks := true }, kinds := [], alts := [], laidByText := true, laidKinds := [.data], laidTests := true, laidLooks := .later }
def OrdersSpacesCardSaid : Prop := Claim7.holds Tryz.pinned (.plain (OpenSpec.ofChange ordersSpacesSpec)) ordersSpacesCard

/-- THE SECOND FORM's CARD OF 'chatelainelaw14.OrdersPlay'. -/
def ordersPlayUptoCard : Claim7 := { stood := { row := ordersPlayUptoRow, standIns := [], harness := (true, "f48482fd128aa4681aef46b86733639887bec049e119d551c121d648e433d0e6"), looks := true }, kinds := [], alts := [], laidByText := true, laidKinds := [.data], laidTests := true, laidLooks := .later }
def OrdersPlayUptoCardSaid : Prop := Claim7.holds Tryz.pinned (.plain (OpenSpec.upto ordersPlaySpec)) ordersPlayUptoCard

/-- THE SECOND FORM's CARD OF 'chatelainelaw14.OrdersOne'. -/
def ordersOneUptoCard : Claim7 := { stood := { row := ordersOneUptoRow, standIns := [], harness := (true, "f48482fd128aa4681aef46b86733639887bec049e119d551c121d648e433d0e6"), looks := true }, kinds := [], alts := [], laidByText := true, laidKinds := [.data], laidTests := true, laidLooks := .later }
def OrdersOneUptoCardSaid : Prop := Claim7.holds Tryz.pinned (.plain (OpenSpec.upto ordersOneSpec)) ordersOneUptoCard

/-- THE SECOND FORM's CARD OF 'chatelainelaw14.OrdersCodes'. -/
def ordersCodesUptoCard : Claim7 := { stood := { row := ordersCodesUptoRow, standIns := [], harness := (true, "f48482fd128aa4681aef46b86733639887bec049e119d551c121d648e433d0e6"), looks := true }, kinds := [], alts := [], laidByText := true, laidKinds := [.data], laidTests := true, laidLooks := .later }
def OrdersCodesUptoCardSaid : Prop := Claim7.holds Tryz.pinned (.plain (OpenSpec.upto ordersCodesSpec)) ordersCodesUptoCard

/-- THE SECOND FORM's CARD OF 'chatelainelaw14.OrdersWithin'. -/
def ordersWithinUptoCard : Claim7 := { stood := { row := ordersWithinUptoRow, standIns := [], harness := (true, "f48482fd128aa4681aef46b86733639887bec049e119d551c121d648e433d0e6"), looks := true }, kinds := [], alts := [], laidByText := true, laidKinds := [.data], laidTests := true, laidLooks := .later }
def OrdersWithinUptoCardSaid : Prop := Claim7.holds Tryz.pinned (.plain (OpenSpec.upto ordersWithinSpec)) ordersWithinUptoCard

/-- THE SECOND FORM's CARD OF 'chatelainelaw14.OrdersNil'. -/
def ordersNilUptoCard : Claim7 := { stood := { row := ordersNilUptoRow, standIns := [], harness := (true, "f48482fd128aa4681aef46b86733639887bec049e119d551c121d648e433d0e6"), looks := true }, kinds := [], alts := [], laidByText := true, laidKinds := [.data], laidTests := true, laidLooks := .later }
def OrdersNilUptoCardSaid : Prop := Claim7.holds Tryz.pinned (.plain (OpenSpec.upto ordersNilSpec)) ordersNilUptoCard

/-- THE SECOND FORM's CARD OF 'chatelainelaw14.OrdersKinds'. -/
def ordersKindsUptoCard : Claim7 := { stood := { row := ordersKindsUptoRow, standIns := [], harness := (true, "f48482fd128aa4681aef46b86733639887bec049e119d551c121d648e433d0e6"), looks := true }, kinds := [], alts := [], laidByText := true, laidKinds := [.data], laidTests := true, laidLooks := .later }
def OrdersKindsUptoCardSaid : Prop := Claim7.holds Tryz.pinned (.plain (OpenSpec.upto ordersKindsSpec)) ordersKindsUptoCard

/-- THE SECOND FORM's CARD OF 'chatelainelaw14.OrdersSpaces'. -/
def ordersSpacesUptoCard : Claim7 := { stood := { row := ordersSpacesUptoRow, standIns := [], harness := (true, "f48482fd128aa4681aef46b86733639887bec049e119d551c121d648e433d0e6"), looks := true }, kinds := [], alts := [], laidByText := true, laidKinds := [.data], laidTests := true, laidLooks := .later }
def OrdersSpacesUptoCardSaid : Prop := Claim7.holds Tryz.pinned (.plain (OpenSpec.upto ordersSpacesSpec)) ordersSpacesUptoCard
end Rows
end Go.Proofs.YtogkdhpnbpgheaaGreatDoor
