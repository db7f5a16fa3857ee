/-
  DERIVED. GIVEN WITH THE SEED: THE CARDS: each row of YtedlacdijkggjaaDoorRows.lean that lists a variable, with what it lists TIED to the program's text (the seventh form; the later family's looks); each row that meets fmt, with fmt's text TOLD by the authors' own Lean function (tested against real Go, not proved from fmt's source: count such statements apart). THE CARD IS WHAT COUNTS. Prove the row's statement (the work); the ties are given (YtedlacdijkggjaaDoorTie.lean); close each card by the builder's one call (the guide's Derived/Test/ToyasCard.lean, 'card_holds'). Laid BY PROGRAM, IN A SANDBOX (cutbox-door.mjs). By AI agents, Wed Nov 11 2026. No macro, syntax, notation, axiom, sorry.
-/
import Derived.Test.YtedlacdijkggjaaDoorRows
import GoSem.ClaimSeven
namespace Go.Proofs.YtedlacdijkggjaaDoor
namespace Rows

/-- THE TIED CARD OF 'chatelainelaw10.PagesPlay'. -/
def pagesPlayCard : Claim7 := { stood := { row := pagesPlayRow, standIns := [], harness := (true, "c06ce639b524a00ec6ce240f5e2444d1ea4b31f25655115d42f44b56c2e8a264"), looks := false }, kinds := [], alts := [], laidByText := true, laidKinds := [.data], laidTests := true, laidLooks := .later }
def PagesPlayCardSaid : Prop := Claim7.holds Tryd.pinned (.plain (OpenSpec.ofChange pagesPlaySpec)) pagesPlayCard

/-- THE TIED CARD OF 'chatelainelaw10.PagesBack'. -/
def pagesBackCard : Claim7 := { stood := { row := pagesBackRow, standIns := [], harness := (true, "c06ce639b524a00ec6ce240f5e2444d1ea4b31f25655115d42f44b56c2e8a264"), looks := false }, kinds := [], alts := [], laidByText := true, laidKinds := [.data], laidTests := true, laidLooks := .later }
def PagesBackCardSaid : Prop := Claim7.holds Tryd.pinned (.plain (OpenSpec.ofChange pagesBackSpec)) pagesBackCard

/-- THE TIED CARD OF 'chatelainelaw10.PagesBounds'. -/
def pagesBoundsCard : Claim7 := { stood := { row := pagesBoundsRow, standIns := [], harness := (true, "c06ce639b524a00ec6ce240f5e2444d1ea4b31f25655115d42f44b56c2e8a264"), looks := false }, kinds := [], alts := [], laidByText := true, laidKinds := [.data], laidTests := true, laidLooks := .later }
def PagesBoundsCardSaid : Prop := Claim7.holds Tryd.pinned (.plain (OpenSpec.ofChange pagesBoundsSpec)) pagesBoundsCard

/-- THE TIED CARD OF 'chatelainelaw10.PagesNil'. -/
def pagesNilCard : Claim7 := { stood := { row := pagesNilRow, standIns := [], harness := (true, "c06ce639b524a00ec6ce240f5e2444d1ea4b31f25655115d42f44b56c2e8a264"), looks := false }, kinds := [], alts := [], laidByText := true, laidKinds := [.data], laidTests := true, laidLooks := .later }
def PagesNilCardSaid : Prop := Claim7.holds Tryd.pinned (.plain (OpenSpec.ofChange pagesNilSpec)) pagesNilCard

/-- THE TIED CARD OF 'chatelainelaw10.PagesPairs'. -/
def pagesPairsCard : Claim7 := { stood := { row := pagesPairsRow, standIns := [], harness := (true, "c06ce639b524a00ec6ce240f5e2444d1ea4b31f25655115d42f44b56c2e8a264"), looks := false }, kinds := [], alts := [], laidByText := true, laidKinds := [.data], laidTests := true, laidLooks := .later }
def PagesPairsCardSaid : Prop := Claim7.holds Tryd.pinned (.plain (OpenSpec.ofChange pagesPairsSpec)) pagesPairsCard

/-- THE SECOND FORM's CARD OF 'chatelainelaw10.PagesPlay'. -/
def pagesPlayUptoCard : Claim7 := { stood := { row := pagesPlayUptoRow, standIns := [], harness := (true, "c06ce639b524a00ec6ce240f5e2444d1ea4b31f25655115d42f44b56c2e8a264"), looks := false }, kinds := [], alts := [], laidByText := true, laidKinds := [.data], laidTests := true, laidLooks := .later }
def PagesPlayUptoCardSaid : Prop := Claim7.holds Tryd.pinned (.plain (OpenSpec.upto pagesPlaySpec)) pagesPlayUptoCard

/-- THE SECOND FORM's CARD OF 'chatelainelaw10.PagesBack'. -/
def pagesBackUptoCard : Claim7 := { stood := { row := pagesBackUptoRow, standIns := [], harness := (true, "c06ce639b524a00ec6ce240f5e2444d1ea4b31f25655115d42f44b56c2e8a264"), looks := false }, kinds := [], alts := [], laidByText := true, laidKinds := [.data], laidTests := true, laidLooks := .later }
def PagesBackUptoCardSaid : Prop := Claim7.holds Tryd.pinned (.plain (OpenSpec.upto pagesBackSpec)) pagesBackUptoCard

/-- THE SECOND FORM's CARD OF 'chatelainelaw10.PagesBounds'. -/
def pagesBoundsUptoCard : Claim7 := { stood := { row := pagesBoundsUptoRow, standIns := [], harness := (true, "c06ce639b524a00ec6ce240f5e2444d1ea4b31f25655115d42f44b56c2e8a264"), looks := false }, kinds := [], alts := [], laidByText := true, laidKinds := [.data], laidTests := true, laidLooks := .later }
def PagesBoundsUptoCardSaid : Prop := Claim7.holds Tryd.pinned (.plain (OpenSpec.upto pagesBoundsSpec)) pagesBoundsUptoCard

/-- THE SECOND FORM's CARD OF 'chatelainelaw10.PagesNil'. -/
def pagesNilUptoCard : Claim7 := { stood := { row := pagesNilUptoRow, standIns := [], harness := (true, "c06ce639b524a00ec6ce240f5e2444d1ea4b31f25655115d42f44b56c2e8a264"), looks := false }, kinds := [], alts := [], laidByText := true, laidKinds := [.data], laidTests := true, laidLooks := .later }
def PagesNilUptoCardSaid : Prop := Claim7.holds Tryd.pinned (.plain (OpenSpec.upto pagesNilSpec)) pagesNilUptoCard

/-- THE SECOND FORM's CARD OF 'chatelainelaw10.PagesPairs'. -/
def pagesPairsUptoCard : Claim7 := { stood := { row := pagesPairsUptoRow, standIns := [], harness := (true, "c06ce639b524a00ec6ce240f5e2444d1ea4b31f25655115d42f44b56c2e8a264"), looks := false }, kinds := [], alts := [], laidByText := true, laidKinds := [.data], laidTests := true, laidLooks := .later }
def PagesPairsUptoCardSaid : Prop := Claim7.holds Tryd.pinned (.plain (OpenSpec.upto pagesPairsSpec)) pagesPairsUptoCard
end Rows
end Go.Proofs.YtedlacdijkggjaaDoor
