/-
  DERIVED. GIVEN WITH THE SEED: THE CARDS: each row of YteodgefnbmiblaaDoorRows.lean that lists a variable, with what it lists TIED to the program's text (the seventh form; the later family's looks); each row that meets fmt, with fmt's text TOLD by the authors' own Lean function (tested against real Go, not proved from fmt's source: count such statements apart). THE CARD IS WHAT COUNTS. Prove the row's statement (the work); the ties are given (YteodgefnbmiblaaDoorTie.lean); close each card by the builder's one call (the guide's Derived/Test/ToyasCard.lean, 'card_holds'). Laid BY PROGRAM, IN A SANDBOX (cutbox-door.mjs). By AI agents, Wed Nov 11 2026. No macro, syntax, notation, axiom, sorry.
-/
import Derived.Test.YteodgefnbmiblaaDoorRows
import GoSem.ClaimSeven
namespace Go.Proofs.YteodgefnbmiblaaDoor
namespace Rows

/-- THE TIED CARD OF 'chatelainelaw12.BanksNever'. -/
def banksNeverCard : Claim7 := { stood := { row := banksNeverRow, standIns := [], harness := (true, "5acc7b69dc5f476d72bcb22347cf5de69fb3454cde8115b4e46306a1ca5fbc77"), looks := true }, kinds := [], alts := [], laidByText := true, laidKinds := [.data], laidTests := true, laidLooks := .later }
def BanksNeverCardSaid : Prop := Claim7.holds Tryd.pinned (.plain (OpenSpec.ofChange banksNeverSpec)) banksNeverCard

/-- THE TIED CARD OF 'chatelainelaw12.BanksFull'. -/
def banksFullCard : Claim7 := { stood := { row := banksFullRow, standIns := [], harness := (true, "5acc7b69dc5f476d72bcb22347cf5de69fb3454cde8115b4e46306a1ca5fbc77"), looks := true }, kinds := [], alts := [], laidByText := true, laidKinds := [.data], laidTests := true, laidLooks := .later }
def BanksFullCardSaid : Prop := Claim7.holds Tryd.pinned (.plain (OpenSpec.ofChange banksFullSpec)) banksFullCard

/-- THE TIED CARD OF 'chatelainelaw12.BanksSplit'. -/
def banksSplitCard : Claim7 := { stood := { row := banksSplitRow, standIns := [], harness := (true, "5acc7b69dc5f476d72bcb22347cf5de69fb3454cde8115b4e46306a1ca5fbc77"), looks := true }, kinds := [], alts := [], laidByText := true, laidKinds := [.data], laidTests := true, laidLooks := .later }
def BanksSplitCardSaid : Prop := Claim7.holds Tryd.pinned (.plain (OpenSpec.ofChange banksSplitSpec)) banksSplitCard

/-- THE TIED CARD OF 'chatelainelaw12.BanksNil'. -/
def banksNilCard : Claim7 := { stood := { row := banksNilRow, standIns := [], harness := (true, "5acc7b69dc5f476d72bcb22347cf5de69fb3454cde8115b4e46306a1ca5fbc77"), looks := true }, kinds := [], alts := [], laidByText := true, laidKinds := [.data], laidTests := true, laidLooks := .later }
def BanksNilCardSaid : Prop := Claim7.holds Tryd.pinned (.plain (OpenSpec.ofChange banksNilSpec)) banksNilCard

/-- THE SECOND FORM's CARD OF 'chatelainelaw12.BanksNever'. -/
def banksNeverUptoCard : Claim7 := { stood := { row := banksNeverUptoRow, standIns := [], harness := (true, "5acc7b69dc5f476d72bcb22347cf5de69fb3454cde8115b4e46306a1ca5fbc77"), looks := true }, kinds := [], alts := [], laidByText := true, laidKinds := [.data], laidTests := true, laidLooks := .later }
def BanksNeverUptoCardSaid : Prop := Claim7.holds Tryd.pinned (.plain (OpenSpec.upto banksNeverSpec)) banksNeverUptoCard

/-- THE SECOND FORM's CARD OF 'chatelainelaw12.BanksFull'. -/
def banksFullUptoCard : Claim7 := { stood := { row := banksFullUptoRow, standIns := [], harness := (true, "5acc7b69dc5f476d72bcb22347cf5de69fb3454cde8115b4e46306a1ca5fbc77"), looks := true }, kinds := [], alts := [], laidByText := true, laidKinds := [.data], laidTests := true, laidLooks := .later }
def BanksFullUptoCardSaid : Prop := Claim7.holds Tryd.pinned (.plain (OpenSpec.upto banksFullSpec)) banksFullUptoCard

/-- THE SECOND FORM's CARD OF 'chatelainelaw12.BanksSplit'. -/
def banksSplitUptoCard : Claim7 := { stood := { row := banksSplitUptoRow, standIns := [], harness := (true, "5acc7b69dc5f476d72bcb22347cf5de69fb3454cde8115b4e46306a1ca5fbc77"), looks := true }, kinds := [], alts := [], laidByText := true, laidKinds := [.data], laidTests := true, laidLooks := .later }
def BanksSplitUptoCardSaid : Prop := Claim7.holds Tryd.pinned (.plain (OpenSpec.upto banksSplitSpec)) banksSplitUptoCard

/-- THE SECOND FORM's CARD OF 'chatelainelaw12.BanksNil'. -/
def banksNilUptoCard : Claim7 := { stood := { row := banksNilUptoRow, standIns := [], harness := (true, "5acc7b69dc5f476d72bcb22347cf5de69fb3454cde8115b4e46306a1ca5fbc77"), looks := true }, kinds := [], alts := [], laidByText := true, laidKinds := [.data], laidTests := true, laidLooks := .later }
def BanksNilUptoCardSaid : Prop := Claim7.holds Tryd.pinned (.plain (OpenSpec.upto banksNilSpec)) banksNilUptoCard
end Rows
end Go.Proofs.YteodgefnbmiblaaDoor
