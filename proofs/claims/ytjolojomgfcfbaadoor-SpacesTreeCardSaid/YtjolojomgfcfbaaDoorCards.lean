/-
  DERIVED. GIVEN WITH THE SEED: THE CARDS: each row of YtjolojomgfcfbaaDoorRows.lean that lists a variable, with what it lists TIED to the program's text (the seventh form; the later family's looks); each row that meets fmt, with fmt's text TOLD by the authors' own Lean function (tested against real Go, not proved from fmt's source: count such statements apart). THE CARD IS WHAT COUNTS. Prove the row's statement (the work); the ties are given (YtjolojomgfcfbaaDoorTie.lean); close each card by the builder's one call (the guide's Derived/Test/ToyasCard.lean, 'card_holds'). Laid BY PROGRAM, IN A SANDBOX (cutbox-door.mjs). By AI agents, Wed Nov 11 2026. No macro, syntax, notation, axiom, sorry.
-/
import Derived.Test.YtjolojomgfcfbaaDoorRows
import GoSem.ClaimSeven
namespace Go.Proofs.YtjolojomgfcfbaaDoor
namespace Rows

/-- THE TIED CARD OF 'chatelainelaw11.SpacesTree'. -/
def spacesTreeCard : Claim7 := { stood := { row := spacesTreeRow, standIns := [], harness := (true, "aac0825bd04ea5c1b095ab23ba0e325179307d17999c06861596f377588197f0"), looks := true }, kinds := [], alts := [], laidByText := true, laidKinds := [.data], laidTests := true, laidLooks := .later }
def SpacesTreeCardSaid : Prop := Claim7.holds Tryd.pinned (.plain (OpenSpec.ofChange spacesTreeSpec)) spacesTreeCard

/-- THE SECOND FORM's CARD OF 'chatelainelaw11.SpacesTree'. -/
def spacesTreeUptoCard : Claim7 := { stood := { row := spacesTreeUptoRow, standIns := [], harness := (true, "aac0825bd04ea5c1b095ab23ba0e325179307d17999c06861596f377588197f0"), looks := true }, kinds := [], alts := [], laidByText := true, laidKinds := [.data], laidTests := true, laidLooks := .later }
def SpacesTreeUptoCardSaid : Prop := Claim7.holds Tryd.pinned (.plain (OpenSpec.upto spacesTreeSpec)) spacesTreeUptoCard
end Rows
end Go.Proofs.YtjolojomgfcfbaaDoor
