/-
  DERIVED. GIVEN WITH THE SEED: THE CARDS: each row of YtfckdbennjkgoaaDoorRows.lean that lists a variable, with what it lists TIED to the program's text (the seventh form; the later family's looks); each row that meets fmt, with fmt's text TOLD by the authors' own Lean function (tested against real Go, not proved from fmt's source: count such statements apart). THE CARD IS WHAT COUNTS. Prove the row's statement (the work); the ties are given (YtfckdbennjkgoaaDoorTie.lean); close each card by the builder's one call (the guide's Derived/Test/ToyasCard.lean, 'card_holds'). Laid BY PROGRAM, IN A SANDBOX (cutbox-door.mjs). By AI agents, Wed Nov 11 2026. No macro, syntax, notation, axiom, sorry.
-/
import Derived.Test.YtfckdbennjkgoaaDoorRows
import GoSem.ClaimSeven
namespace Go.Proofs.YtfckdbennjkgoaaDoor
namespace Rows

/-- THE TIED CARD OF 'chatelainelaw11.SpacesWalk'. -/
def spacesWalkCard : Claim7 := { stood := { row := spacesWalkRow, standIns := [], harness := (true, "e83c85433ec0a2c5dcd45ef434444b122dcd1937bee5c14f9c0633c9121220c8"), looks := true }, kinds := [], alts := [], laidByText := true, laidKinds := [.data], laidTests := true, laidLooks := .later }
def SpacesWalkCardSaid : Prop := Claim7.holds Tryd.pinned (.plain (OpenSpec.ofChange spacesWalkSpec)) spacesWalkCard

/-- THE TIED CARD OF 'chatelainelaw11.SpacesBack'. -/
def spacesBackCard : Claim7 := { stood := { row := spacesBackRow, standIns := [], harness := (true, "e83c85433ec0a2c5dcd45ef434444b122dcd1937bee5c14f9c0633c9121220c8"), looks := true }, kinds := [], alts := [], laidByText := true, laidKinds := [.data], laidTests := true, laidLooks := .later }
def SpacesBackCardSaid : Prop := Claim7.holds Tryd.pinned (.plain (OpenSpec.ofChange spacesBackSpec)) spacesBackCard

/-- THE TIED CARD OF 'chatelainelaw11.SpacesTree'. -/
def spacesTreeCard : Claim7 := { stood := { row := spacesTreeRow, standIns := [], harness := (true, "e83c85433ec0a2c5dcd45ef434444b122dcd1937bee5c14f9c0633c9121220c8"), looks := true }, kinds := [], alts := [], laidByText := true, laidKinds := [.data], laidTests := true, laidLooks := .later }
def SpacesTreeCardSaid : Prop := Claim7.holds Tryd.pinned (.plain (OpenSpec.ofChange spacesTreeSpec)) spacesTreeCard

/-- THE TIED CARD OF 'chatelainelaw11.SpacesSpan'. -/
def spacesSpanCard : Claim7 := { stood := { row := spacesSpanRow, standIns := [], harness := (true, "e83c85433ec0a2c5dcd45ef434444b122dcd1937bee5c14f9c0633c9121220c8"), looks := true }, kinds := [], alts := [], laidByText := true, laidKinds := [.data], laidTests := true, laidLooks := .later }
def SpacesSpanCardSaid : Prop := Claim7.holds Tryd.pinned (.plain (OpenSpec.ofChange spacesSpanSpec)) spacesSpanCard

/-- THE TIED CARD OF 'chatelainelaw11.SpacesNil'. -/
def spacesNilCard : Claim7 := { stood := { row := spacesNilRow, standIns := [], harness := (true, "e83c85433ec0a2c5dcd45ef434444b122dcd1937bee5c14f9c0633c9121220c8"), looks := true }, kinds := [], alts := [], laidByText := true, laidKinds := [.data], laidTests := true, laidLooks := .later }
def SpacesNilCardSaid : Prop := Claim7.holds Tryd.pinned (.plain (OpenSpec.ofChange spacesNilSpec)) spacesNilCard

/-- THE TIED CARD OF 'chatelainelaw11.SpacesChain'. -/
def spacesChainCard : Claim7 := { stood := { row := spacesChainRow, standIns := [], harness := (true, "e83c85433ec0a2c5dcd45ef434444b122dcd1937bee5c14f9c0633c9121220c8"), looks := true }, kinds := [], alts := [], laidByText := true, laidKinds := [.data], laidTests := true, laidLooks := .later }
def SpacesChainCardSaid : Prop := Claim7.holds Tryd.pinned (.plain (OpenSpec.ofChange spacesChainSpec)) spacesChainCard

/-- THE SECOND FORM's CARD OF 'chatelainelaw11.SpacesWalk'. -/
def spacesWalkUptoCard : Claim7 := { stood := { row := spacesWalkUptoRow, standIns := [], harness := (true, "e83c85433ec0a2c5dcd45ef434444b122dcd1937bee5c14f9c0633c9121220c8"), looks := true }, kinds := [], alts := [], laidByText := true, laidKinds := [.data], laidTests := true, laidLooks := .later }
def SpacesWalkUptoCardSaid : Prop := Claim7.holds Tryd.pinned (.plain (OpenSpec.upto spacesWalkSpec)) spacesWalkUptoCard

/-- THE SECOND FORM's CARD OF 'chatelainelaw11.SpacesBack'. -/
def spacesBackUptoCard : Claim7 := { stood := { row := spacesBackUptoRow, standIns := [], harness := (true, "e83c85433ec0a2c5dcd45ef434444b122dcd1937bee5c14f9c0633c9121220c8"), looks := true }, kinds := [], alts := [], laidByText := true, laidKinds := [.data], laidTests := true, laidLooks := .later }
def SpacesBackUptoCardSaid : Prop := Claim7.holds Tryd.pinned (.plain (OpenSpec.upto spacesBackSpec)) spacesBackUptoCard

/-- THE SECOND FORM's CARD OF 'chatelainelaw11.SpacesTree'. -/
def spacesTreeUptoCard : Claim7 := { stood := { row := spacesTreeUptoRow, standIns := [], harness := (true, "e83c85433ec0a2c5dcd45ef434444b122dcd1937bee5c14f9c0633c9121220c8"), looks := true }, kinds := [], alts := [], laidByText := true, laidKinds := [.data], laidTests := true, laidLooks := .later }
def SpacesTreeUptoCardSaid : Prop := Claim7.holds Tryd.pinned (.plain (OpenSpec.upto spacesTreeSpec)) spacesTreeUptoCard

/-- THE SECOND FORM's CARD OF 'chatelainelaw11.SpacesSpan'. -/
def spacesSpanUptoCard : Claim7 := { stood := { row := spacesSpanUptoRow, standIns := [], harness := (true, "e83c85433ec0a2c5dcd45ef434444b122dcd1937bee5c14f9c0633c9121220c8"), looks := true }, kinds := [], alts := [], laidByText := true, laidKinds := [.data], laidTests := true, laidLooks := .later }
def SpacesSpanUptoCardSaid : Prop := Claim7.holds Tryd.pinned (.plain (OpenSpec.upto spacesSpanSpec)) spacesSpanUptoCard

/-- THE SECOND FORM's CARD OF 'chatelainelaw11.SpacesNil'. -/
def spacesNilUptoCard : Claim7 := { stood := { row := spacesNilUptoRow, standIns := [], harness := (true, "e83c85433ec0a2c5dcd45ef434444b122dcd1937bee5c14f9c0633c9121220c8"), looks := true }, kinds := [], alts := [], laidByText := true, laidKinds := [.data], laidTests := true, laidLooks := .later }
def SpacesNilUptoCardSaid : Prop := Claim7.holds Tryd.pinned (.plain (OpenSpec.upto spacesNilSpec)) spacesNilUptoCard

/-- THE SECOND FORM's CARD OF 'chatelainelaw11.SpacesChain'. -/
def spacesChainUptoCard : Claim7 := { stood := { row := spacesChainUptoRow, standIns := [], harness := (true, "e83c85433ec0a2c5dcd45ef434444b122dcd1937bee5c14f9c0633c9121220c8"), looks := true }, kinds := [], alts := [], laidByText := true, laidKinds := [.data], laidTests := true, laidLooks := .later }
def SpacesChainUptoCardSaid : Prop := Claim7.holds Tryd.pinned (.plain (OpenSpec.upto spacesChainSpec)) spacesChainUptoCard
end Rows
end Go.Proofs.YtfckdbennjkgoaaDoor
