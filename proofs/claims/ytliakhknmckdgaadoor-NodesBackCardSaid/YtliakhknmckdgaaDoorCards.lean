/-
  DERIVED. GIVEN WITH THE SEED: THE CARDS: each row of YtliakhknmckdgaaDoorRows.lean that lists a variable, with what it lists TIED to the program's text (the seventh form; the later family's looks); each row that meets fmt, with fmt's text TOLD by the authors' own Lean function (tested against real Go, not proved from fmt's source: count such statements apart). THE CARD IS WHAT COUNTS. Prove the row's statement (the work); the ties are given (YtliakhknmckdgaaDoorTie.lean); close each card by the builder's one call (the guide's Derived/Test/ToyasCard.lean, 'card_holds'). Laid BY PROGRAM, IN A SANDBOX (cutbox-door.mjs). By AI agents, Wed Nov 11 2026. No macro, syntax, notation, axiom, sorry.
-/
import Derived.Test.YtliakhknmckdgaaDoorRows
import GoSem.ClaimSeven
namespace Go.Proofs.YtliakhknmckdgaaDoor
namespace Rows

/-- THE TIED CARD OF 'chatelainelaw09.NodesPlay'. -/
def nodesPlayCard : Claim7 := { stood := { row := nodesPlayRow, standIns := [], harness := (true, "a6f5f37a53fa99913912c480f9223d594e43257da223e9bd5aa035755cbce6f2"), looks := true }, kinds := [], alts := [], laidByText := true, laidKinds := [.data], laidTests := true, laidLooks := .later }
def NodesPlayCardSaid : Prop := Claim7.holds Tryd.pinned (.plain (OpenSpec.ofChange nodesPlaySpec)) nodesPlayCard

/-- THE TIED CARD OF 'chatelainelaw09.NodesOne'. -/
def nodesOneCard : Claim7 := { stood := { row := nodesOneRow, standIns := [], harness := (true, "a6f5f37a53fa99913912c480f9223d594e43257da223e9bd5aa035755cbce6f2"), looks := true }, kinds := [], alts := [], laidByText := true, laidKinds := [.data], laidTests := true, laidLooks := .later }
def NodesOneCardSaid : Prop := Claim7.holds Tryd.pinned (.plain (OpenSpec.ofChange nodesOneSpec)) nodesOneCard

/-- THE TIED CARD OF 'chatelainelaw09.NodesWeak'. -/
def nodesWeakCard : Claim7 := { stood := { row := nodesWeakRow, standIns := [], harness := (true, "a6f5f37a53fa99913912c480f9223d594e43257da223e9bd5aa035755cbce6f2"), looks := true }, kinds := [], alts := [], laidByText := true, laidKinds := [.data], laidTests := true, laidLooks := .later }
def NodesWeakCardSaid : Prop := Claim7.holds Tryd.pinned (.plain (OpenSpec.ofChange nodesWeakSpec)) nodesWeakCard

/-- THE TIED CARD OF 'chatelainelaw09.NodesBack'. -/
def nodesBackCard : Claim7 := { stood := { row := nodesBackRow, standIns := [], harness := (true, "a6f5f37a53fa99913912c480f9223d594e43257da223e9bd5aa035755cbce6f2"), looks := true }, kinds := [], alts := [], laidByText := true, laidKinds := [.data], laidTests := true, laidLooks := .later }
def NodesBackCardSaid : Prop := Claim7.holds Tryd.pinned (.plain (OpenSpec.ofChange nodesBackSpec)) nodesBackCard

/-- THE TIED CARD OF 'chatelainelaw09.NodesNil'. -/
def nodesNilCard : Claim7 := { stood := { row := nodesNilRow, standIns := [], harness := (true, "a6f5f37a53fa99913912c480f9223d594e43257da223e9bd5aa035755cbce6f2"), looks := true }, kinds := [], alts := [], laidByText := true, laidKinds := [.data], laidTests := true, laidLooks := .later }
def NodesNilCardSaid : Prop := Claim7.holds Tryd.pinned (.plain (OpenSpec.ofChange nodesNilSpec)) nodesNilCard

/-- THE TIED CARD OF 'chatelainelaw09.NodesRights'. -/
def nodesRightsCard : Claim7 := { stood := { row := nodesRightsRow, standIns := [], harness := (true, "a6f5f37a53fa99913912c480f9223d594e43257da223e9bd5aa035755cbce6f2"), looks := true }, kinds := [], alts := [], laidByText := true, laidKinds := [.data], laidTests := true, laidLooks := .later }
def NodesRightsCardSaid : Prop := Claim7.holds Tryd.pinned (.plain (OpenSpec.ofChange nodesRightsSpec)) nodesRightsCard

/-- THE SECOND FORM's CARD OF 'chatelainelaw09.NodesPlay'. -/
def nodesPlayUptoCard : Claim7 := { stood := { row := nodesPlayUptoRow, standIns := [], harness := (true, "a6f5f37a53fa99913912c480f9223d594e43257da223e9bd5aa035755cbce6f2"), looks := true }, kinds := [], alts := [], laidByText := true, laidKinds := [.data], laidTests := true, laidLooks := .later }
def NodesPlayUptoCardSaid : Prop := Claim7.holds Tryd.pinned (.plain (OpenSpec.upto nodesPlaySpec)) nodesPlayUptoCard

/-- THE SECOND FORM's CARD OF 'chatelainelaw09.NodesOne'. -/
def nodesOneUptoCard : Claim7 := { stood := { row := nodesOneUptoRow, standIns := [], harness := (true, "a6f5f37a53fa99913912c480f9223d594e43257da223e9bd5aa035755cbce6f2"), looks := true }, kinds := [], alts := [], laidByText := true, laidKinds := [.data], laidTests := true, laidLooks := .later }
def NodesOneUptoCardSaid : Prop := Claim7.holds Tryd.pinned (.plain (OpenSpec.upto nodesOneSpec)) nodesOneUptoCard

/-- THE SECOND FORM's CARD OF 'chatelainelaw09.NodesWeak'. -/
def nodesWeakUptoCard : Claim7 := { stood := { row := nodesWeakUptoRow, standIns := [], harness := (true, "a6f5f37a53fa99913912c480f9223d594e43257da223e9bd5aa035755cbce6f2"), looks := true }, kinds := [], alts := [], laidByText := true, laidKinds := [.data], laidTests := true, laidLooks := .later }
def NodesWeakUptoCardSaid : Prop := Claim7.holds Tryd.pinned (.plain (OpenSpec.upto nodesWeakSpec)) nodesWeakUptoCard

/-- THE SECOND FORM's CARD OF 'chatelainelaw09.NodesBack'. -/
def nodesBackUptoCard : Claim7 := { stood := { row := nodesBackUptoRow, standIns := [], harness := (true, "a6f5f37a53fa99913912c480f9223d594e43257da223e9bd5aa035755cbce6f2"), looks := true }, kinds := [], alts := [], laidByText := true, laidKinds := [.data], laidTests := true, laidLooks := .later }
def NodesBackUptoCardSaid : Prop := Claim7.holds Tryd.pinned (.plain (OpenSpec.upto nodesBackSpec)) nodesBackUptoCard

/-- THE SECOND FORM's CARD OF 'chatelainelaw09.NodesNil'. -/
def nodesNilUptoCard : Claim7 := { stood := { row := nodesNilUptoRow, standIns := [], harness := (true, "a6f5f37a53fa99913912c480f9223d594e43257da223e9bd5aa035755cbce6f2"), looks := true }, kinds := [], alts := [], laidByText := true, laidKinds := [.data], laidTests := true, laidLooks := .later }
def NodesNilUptoCardSaid : Prop := Claim7.holds Tryd.pinned (.plain (OpenSpec.upto nodesNilSpec)) nodesNilUptoCard

/-- THE SECOND FORM's CARD OF 'chatelainelaw09.NodesRights'. -/
def nodesRightsUptoCard : Claim7 := { stood := { row := nodesRightsUptoRow, standIns := [], harness := (true, "a6f5f37a53fa99913912c480f9223d594e43257da223e9bd5aa035755cbce6f2"), looks := true }, kinds := [], alts := [], laidByText := true, laidKinds := [.data], laidTests := true, laidLooks := .later }
def NodesRightsUptoCardSaid : Prop := Claim7.holds Tryd.pinned (.plain (OpenSpec.upto nodesRightsSpec)) nodesRightsUptoCard
end Rows
end Go.Proofs.YtliakhknmckdgaaDoor
