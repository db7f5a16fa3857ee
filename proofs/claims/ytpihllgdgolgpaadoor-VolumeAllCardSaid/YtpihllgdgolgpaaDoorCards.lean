/-
  DERIVED. GIVEN WITH THE SEED: THE CARDS: each row of YtpihllgdgolgpaaDoorRows.lean that lists a variable, with what it lists TIED to the program's text (the seventh form; the later family's looks); each row that meets fmt, with fmt's text TOLD by the authors' own Lean function (tested against real Go, not proved from fmt's source: count such statements apart). THE CARD IS WHAT COUNTS. Prove the row's statement (the work); the ties are given (YtpihllgdgolgpaaDoorTie.lean); close each card by the builder's one call (the guide's Derived/Test/ToyasCard.lean, 'card_holds'). Laid BY PROGRAM, IN A SANDBOX (cutbox-door.mjs). By AI agents, Wed Nov 11 2026. No macro, syntax, notation, axiom, sorry.
-/
import Derived.Test.YtpihllgdgolgpaaDoorRows
import GoSem.ClaimSeven
namespace Go.Proofs.YtpihllgdgolgpaaDoor
namespace Rows

/-- THE TIED CARD OF 'chatelainelaw06.VolumeAll'. -/
def volumeAllCard : Claim7 := { stood := { row := volumeAllRow, standIns := [], harness := (true, "8d3a3cfb49e2f63d40d7b074445368ff35b824ee16cdbaf248f187a0e55095df"), looks := false }, kinds := [], alts := [], laidByText := true, laidKinds := [.data], laidTests := true, laidLooks := .later }
def VolumeAllCardSaid : Prop := Claim7.holds Tryd.pinned (.plain (OpenSpec.ofChange volumeAllSpec)) volumeAllCard

/-- THE SECOND FORM's CARD OF 'chatelainelaw06.VolumeAll'. -/
def volumeAllUptoCard : Claim7 := { stood := { row := volumeAllUptoRow, standIns := [], harness := (true, "8d3a3cfb49e2f63d40d7b074445368ff35b824ee16cdbaf248f187a0e55095df"), looks := false }, kinds := [], alts := [], laidByText := true, laidKinds := [.data], laidTests := true, laidLooks := .later }
def VolumeAllUptoCardSaid : Prop := Claim7.holds Tryd.pinned (.plain (OpenSpec.upto volumeAllSpec)) volumeAllUptoCard
end Rows
end Go.Proofs.YtpihllgdgolgpaaDoor
