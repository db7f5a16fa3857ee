/-
  DERIVED. GIVEN WITH THE SEED: THE CARDS: each row of YtlhlgfehbfankaaDoorRows.lean that lists a variable, with what it lists TIED to the program's text (the seventh form; the later family's looks); each row that meets fmt, with fmt's text TOLD by the authors' own Lean function (tested against real Go, not proved from fmt's source: count such statements apart). THE CARD IS WHAT COUNTS. Prove the row's statement (the work); the ties are given (YtlhlgfehbfankaaDoorTie.lean); close each card by the builder's one call (the guide's Derived/Test/ToyasCard.lean, 'card_holds'). Laid BY PROGRAM, IN A SANDBOX (cutbox-door.mjs). By AI agents, Wed Nov 11 2026. No macro, syntax, notation, axiom, sorry.
-/
import Derived.Test.YtlhlgfehbfankaaDoorRows
import GoSem.ClaimSeven
namespace Go.Proofs.YtlhlgfehbfankaaDoor
namespace Rows

/-- THE TIED CARD OF 'chatelainelaw04.ObjectsCheck'. -/
def objectsCheckCard : Claim7 := { stood := { row := objectsCheckRow, standIns := [], harness := (true, "12a261b7e0ec1764e34d028876ca023b65cb2eac58144c20990339e5e0f4acd1"), looks := false }, kinds := [], alts := [], laidByText := true, laidKinds := [.data], laidTests := true, laidLooks := .later }
def ObjectsCheckCardSaid : Prop := Claim7.holds Tryd.pinned (.plain (OpenSpec.ofChange objectsCheckSpec)) objectsCheckCard

/-- THE TIED CARD OF 'chatelainelaw04.ObjectsOf'. -/
def objectsOfCard : Claim7 := { stood := { row := objectsOfRow, standIns := [], harness := (true, "12a261b7e0ec1764e34d028876ca023b65cb2eac58144c20990339e5e0f4acd1"), looks := false }, kinds := [], alts := [], laidByText := true, laidKinds := [.data], laidTests := true, laidLooks := .later }
def ObjectsOfCardSaid : Prop := Claim7.holds Tryd.pinned (.plain (OpenSpec.ofChange objectsOfSpec)) objectsOfCard

/-- THE TIED CARD OF 'chatelainelaw04.ObjectsPlay'. -/
def objectsPlayCard : Claim7 := { stood := { row := objectsPlayRow, standIns := [], harness := (true, "12a261b7e0ec1764e34d028876ca023b65cb2eac58144c20990339e5e0f4acd1"), looks := false }, kinds := [], alts := [], laidByText := true, laidKinds := [.data], laidTests := true, laidLooks := .later }
def ObjectsPlayCardSaid : Prop := Claim7.holds Tryd.pinned (.plain (OpenSpec.ofChange objectsPlaySpec)) objectsPlayCard

/-- THE TIED CARD OF 'chatelainelaw04.ObjectsKeys'. -/
def objectsKeysCard : Claim7 := { stood := { row := objectsKeysRow, standIns := [], harness := (true, "12a261b7e0ec1764e34d028876ca023b65cb2eac58144c20990339e5e0f4acd1"), looks := false }, kinds := [], alts := [], laidByText := true, laidKinds := [.data], laidTests := true, laidLooks := .later }
def ObjectsKeysCardSaid : Prop := Claim7.holds Tryd.pinned (.plain (OpenSpec.ofChange objectsKeysSpec)) objectsKeysCard

/-- THE TIED CARD OF 'chatelainelaw04.ObjectsUnlike'. -/
def objectsUnlikeCard : Claim7 := { stood := { row := objectsUnlikeRow, standIns := [], harness := (true, "12a261b7e0ec1764e34d028876ca023b65cb2eac58144c20990339e5e0f4acd1"), looks := false }, kinds := [], alts := [], laidByText := true, laidKinds := [.data], laidTests := true, laidLooks := .later }
def ObjectsUnlikeCardSaid : Prop := Claim7.holds Tryd.pinned (.plain (OpenSpec.ofChange objectsUnlikeSpec)) objectsUnlikeCard

/-- THE TIED CARD OF 'chatelainelaw04.ObjectsAll'. -/
def objectsAllCard : Claim7 := { stood := { row := objectsAllRow, standIns := [], harness := (true, "12a261b7e0ec1764e34d028876ca023b65cb2eac58144c20990339e5e0f4acd1"), looks := false }, kinds := [], alts := [], laidByText := true, laidKinds := [.data], laidTests := true, laidLooks := .later }
def ObjectsAllCardSaid : Prop := Claim7.holds Tryd.pinned (.plain (OpenSpec.ofChange objectsAllSpec)) objectsAllCard

/-- THE TIED CARD OF 'chatelainelaw04.ObjectsNil'. -/
def objectsNilCard : Claim7 := { stood := { row := objectsNilRow, standIns := [], harness := (true, "12a261b7e0ec1764e34d028876ca023b65cb2eac58144c20990339e5e0f4acd1"), looks := false }, kinds := [], alts := [], laidByText := true, laidKinds := [.data], laidTests := true, laidLooks := .later }
def ObjectsNilCardSaid : Prop := Claim7.holds Tryd.pinned (.plain (OpenSpec.ofChange objectsNilSpec)) objectsNilCard

/-- THE TIED CARD OF 'chatelainelaw04.ObjectsNear'. -/
def objectsNearCard : Claim7 := { stood := { row := objectsNearRow, standIns := [], harness := (true, "12a261b7e0ec1764e34d028876ca023b65cb2eac58144c20990339e5e0f4acd1"), looks := false }, kinds := [], alts := [], laidByText := true, laidKinds := [.data], laidTests := true, laidLooks := .later }
def ObjectsNearCardSaid : Prop := Claim7.holds Tryd.pinned (.plain (OpenSpec.ofChange objectsNearSpec)) objectsNearCard

/-- THE SECOND FORM's CARD OF 'chatelainelaw04.ObjectsCheck'. -/
def objectsCheckUptoCard : Claim7 := { stood := { row := objectsCheckUptoRow, standIns := [], harness := (true, "12a261b7e0ec1764e34d028876ca023b65cb2eac58144c20990339e5e0f4acd1"), looks := false }, kinds := [], alts := [], laidByText := true, laidKinds := [.data], laidTests := true, laidLooks := .later }
def ObjectsCheckUptoCardSaid : Prop := Claim7.holds Tryd.pinned (.plain (OpenSpec.upto objectsCheckSpec)) objectsCheckUptoCard

/-- THE SECOND FORM's CARD OF 'chatelainelaw04.ObjectsOf'. -/
def objectsOfUptoCard : Claim7 := { stood := { row := objectsOfUptoRow, standIns := [], harness := (true, "12a261b7e0ec1764e34d028876ca023b65cb2eac58144c20990339e5e0f4acd1"), looks := false }, kinds := [], alts := [], laidByText := true, laidKinds := [.data], laidTests := true, laidLooks := .later }
def ObjectsOfUptoCardSaid : Prop := Claim7.holds Tryd.pinned (.plain (OpenSpec.upto objectsOfSpec)) objectsOfUptoCard

/-- THE SECOND FORM's CARD OF 'chatelainelaw04.ObjectsPlay'. -/
def objectsPlayUptoCard : Claim7 := { stood := { row := objectsPlayUptoRow, standIns := [], harness := (true, "12a261b7e0ec1764e34d028876ca023b65cb2eac58144c20990339e5e0f4acd1"), looks := false }, kinds := [], alts := [], laidByText := true, laidKinds := [.data], laidTests := true, laidLooks := .later }
def ObjectsPlayUptoCardSaid : Prop := Claim7.holds Tryd.pinned (.plain (OpenSpec.upto objectsPlaySpec)) objectsPlayUptoCard

/-- THE SECOND FORM's CARD OF 'chatelainelaw04.ObjectsKeys'. -/
def objectsKeysUptoCard : Claim7 := { stood := { row := objectsKeysUptoRow, standIns := [], harness := (true, "12a261b7e0ec1764e34d028876ca023b65cb2eac58144c20990339e5e0f4acd1"), looks := false }, kinds := [], alts := [], laidByText := true, laidKinds := [.data], laidTests := true, laidLooks := .later }
def ObjectsKeysUptoCardSaid : Prop := Claim7.holds Tryd.pinned (.plain (OpenSpec.upto objectsKeysSpec)) objectsKeysUptoCard

/-- THE SECOND FORM's CARD OF 'chatelainelaw04.ObjectsUnlike'. -/
def objectsUnlikeUptoCard : Claim7 := { stood := { row := objectsUnlikeUptoRow, standIns := [], harness := (true, "12a261b7e0ec1764e34d028876ca023b65cb2eac58144c20990339e5e0f4acd1"), looks := false }, kinds := [], alts := [], laidByText := true, laidKinds := [.data], laidTests := true, laidLooks := .later }
def ObjectsUnlikeUptoCardSaid : Prop := Claim7.holds Tryd.pinned (.plain (OpenSpec.upto objectsUnlikeSpec)) objectsUnlikeUptoCard

/-- THE SECOND FORM's CARD OF 'chatelainelaw04.ObjectsAll'. -/
def objectsAllUptoCard : Claim7 := { stood := { row := objectsAllUptoRow, standIns := [], harness := (true, "12a261b7e0ec1764e34d028876ca023b65cb2eac58144c20990339e5e0f4acd1"), looks := false }, kinds := [], alts := [], laidByText := true, laidKinds := [.data], laidTests := true, laidLooks := .later }
def ObjectsAllUptoCardSaid : Prop := Claim7.holds Tryd.pinned (.plain (OpenSpec.upto objectsAllSpec)) objectsAllUptoCard

/-- THE SECOND FORM's CARD OF 'chatelainelaw04.ObjectsNil'. -/
def objectsNilUptoCard : Claim7 := { stood := { row := objectsNilUptoRow, standIns := [], harness := (true, "12a261b7e0ec1764e34d028876ca023b65cb2eac58144c20990339e5e0f4acd1"), looks := false }, kinds := [], alts := [], laidByText := true, laidKinds := [.data], laidTests := true, laidLooks := .later }
def ObjectsNilUptoCardSaid : Prop := Claim7.holds Tryd.pinned (.plain (OpenSpec.upto objectsNilSpec)) objectsNilUptoCard

/-- THE SECOND FORM's CARD OF 'chatelainelaw04.ObjectsNear'. -/
def objectsNearUptoCard : Claim7 := { stood := { row := objectsNearUptoRow, standIns := [], harness := (true, "12a261b7e0ec1764e34d028876ca023b65cb2eac58144c20990339e5e0f4acd1"), looks := false }, kinds := [], alts := [], laidByText := true, laidKinds := [.data], laidTests := true, laidLooks := .later }
def ObjectsNearUptoCardSaid : Prop := Claim7.holds Tryd.pinned (.plain (OpenSpec.upto objectsNearSpec)) objectsNearUptoCard
end Rows
end Go.Proofs.YtlhlgfehbfankaaDoor
