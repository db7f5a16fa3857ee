/-
  DERIVED. GIVEN WITH THE SEED: THE CARDS: each row of YtljfddeolapeaaaDoorRows.lean that lists a variable, with what it lists TIED to the program's text (the seventh form; the later family's looks); each row that meets fmt, with fmt's text TOLD by the authors' own Lean function (tested against real Go, not proved from fmt's source: count such statements apart). THE CARD IS WHAT COUNTS. Prove the row's statement (the work); the ties are given (YtljfddeolapeaaaDoorTie.lean); close each card by the builder's one call (the guide's Derived/Test/ToyasCard.lean, 'card_holds'). Laid BY PROGRAM, IN A SANDBOX (cutbox-door.mjs). By AI agents, Wed Nov 11 2026. No macro, syntax, notation, axiom, sorry.
-/
import Derived.Test.YtljfddeolapeaaaDoorRows
import GoSem.ClaimSeven
namespace Go.Proofs.YtljfddeolapeaaaDoor
namespace Rows

/-- THE TIED CARD OF 'chatelainelaw13.ProcsPlay'. -/
def procsPlayCard : Claim7 := { stood := { row := procsPlayRow, standIns := [], harness := (true, "d51e147bdf61632146cfd63beea6fd00a8424f8a6cc4b6db2e934b1dcc22be85"), looks := true }, kinds := [], alts := [], laidByText := true, laidKinds := [.data], laidTests := true, laidLooks := .later }
def ProcsPlayCardSaid : Prop := Claim7.holds Tryd.pinned (.plain (OpenSpec.ofChange procsPlaySpec)) procsPlayCard

/-- THE TIED CARD OF 'chatelainelaw13.ProcsOne'. -/
def procsOneCard : Claim7 := { stood := { row := procsOneRow, standIns := [], harness := (true, "d51e147bdf61632146cfd63beea6fd00a8424f8a6cc4b6db2e934b1dcc22be85"), looks := true }, kinds := [], alts := [], laidByText := true, laidKinds := [.data], laidTests := true, laidLooks := .later }
def ProcsOneCardSaid : Prop := Claim7.holds Tryd.pinned (.plain (OpenSpec.ofChange procsOneSpec)) procsOneCard

/-- THE TIED CARD OF 'chatelainelaw13.ProcsOnce'. -/
def procsOnceCard : Claim7 := { stood := { row := procsOnceRow, standIns := [], harness := (true, "d51e147bdf61632146cfd63beea6fd00a8424f8a6cc4b6db2e934b1dcc22be85"), looks := true }, kinds := [], alts := [], laidByText := true, laidKinds := [.data], laidTests := true, laidLooks := .later }
def ProcsOnceCardSaid : Prop := Claim7.holds Tryd.pinned (.plain (OpenSpec.ofChange procsOnceSpec)) procsOnceCard

/-- THE TIED CARD OF 'chatelainelaw13.ProcsStates'. -/
def procsStatesCard : Claim7 := { stood := { row := procsStatesRow, standIns := [], harness := (true, "d51e147bdf61632146cfd63beea6fd00a8424f8a6cc4b6db2e934b1dcc22be85"), looks := true }, kinds := [], alts := [], laidByText := true, laidKinds := [.data], laidTests := true, laidLooks := .later }
def ProcsStatesCardSaid : Prop := Claim7.holds Tryd.pinned (.plain (OpenSpec.ofChange procsStatesSpec)) procsStatesCard

/-- THE SECOND FORM's CARD OF 'chatelainelaw13.ProcsPlay'. -/
def procsPlayUptoCard : Claim7 := { stood := { row := procsPlayUptoRow, standIns := [], harness := (true, "d51e147bdf61632146cfd63beea6fd00a8424f8a6cc4b6db2e934b1dcc22be85"), looks := true }, kinds := [], alts := [], laidByText := true, laidKinds := [.data], laidTests := true, laidLooks := .later }
def ProcsPlayUptoCardSaid : Prop := Claim7.holds Tryd.pinned (.plain (OpenSpec.upto procsPlaySpec)) procsPlayUptoCard

/-- THE SECOND FORM's CARD OF 'chatelainelaw13.ProcsOne'. -/
def procsOneUptoCard : Claim7 := { stood := { row := procsOneUptoRow, standIns := [], harness := (true, "d51e147bdf61632146cfd63beea6fd00a8424f8a6cc4b6db2e934b1dcc22be85"), looks := true }, kinds := [], alts := [], laidByText := true, laidKinds := [.data], laidTests := true, laidLooks := .later }
def ProcsOneUptoCardSaid : Prop := Claim7.holds Tryd.pinned (.plain (OpenSpec.upto procsOneSpec)) procsOneUptoCard

/-- THE SECOND FORM's CARD OF 'chatelainelaw13.ProcsOnce'. -/
def procsOnceUptoCard : Claim7 := { stood := { row := procsOnceUptoRow, standIns := [], harness := (true, "d51e147bdf61632146cfd63beea6fd00a8424f8a6cc4b6db2e934b1dcc22be85"), looks := true }, kinds := [], alts := [], laidByText := true, laidKinds := [.data], laidTests := true, laidLooks := .later }
def ProcsOnceUptoCardSaid : Prop := Claim7.holds Tryd.pinned (.plain (OpenSpec.upto procsOnceSpec)) procsOnceUptoCard

/-- THE SECOND FORM's CARD OF 'chatelainelaw13.ProcsStates'. -/
def procsStatesUptoCard : Claim7 := { stood := { row := procsStatesUptoRow, standIns := [], harness := (true, "d51e147bdf61632146cfd63beea6fd00a8424f8a6cc4b6db2e934b1dcc22be85"), looks := true }, kinds := [], alts := [], laidByText := true, laidKinds := [.data], laidTests := true, laidLooks := .later }
def ProcsStatesUptoCardSaid : Prop := Claim7.holds Tryd.pinned (.plain (OpenSpec.upto procsStatesSpec)) procsStatesUptoCard
end Rows
end Go.Proofs.YtljfddeolapeaaaDoor
