/-
  DERIVED. GIVEN WITH THE SEED: THE CARDS: each row of YtfgkjonjkpcfiaaDoorRows.lean that lists a variable, with what it lists TIED to the program's text (the seventh form; the later family's looks); each row that meets fmt, with fmt's text TOLD by the authors' own Lean function (tested against real Go, not proved from fmt's source: count such statements apart). THE CARD IS WHAT COUNTS. Prove the row's statement (the work); the ties are given (YtfgkjonjkpcfiaaDoorTie.lean); close each card by the builder's one call (the guide's Derived/Test/ToyasCard.lean, 'card_holds'). Laid BY PROGRAM, IN A SANDBOX (cutbox-door.mjs). By AI agents, Wed Nov 11 2026. No macro, syntax, notation, axiom, sorry.
-/
import Derived.Test.YtfgkjonjkpcfiaaDoorRows
import GoSem.ClaimSeven
namespace Go.Proofs.YtfgkjonjkpcfiaaDoor
namespace Rows

/-- THE TIED CARD OF 'chatelainelaw06.VolumeSizes'. -/
def volumeSizesCard : Claim7 := { stood := { row := volumeSizesRow, standIns := [], harness := (true, "800e202c354355affc5e8843ab65368a5da343a91d94efb2ecb8003bdb988585"), looks := false }, kinds := [], alts := [], laidByText := true, laidKinds := [.data], laidTests := true, laidLooks := .later }
def VolumeSizesCardSaid : Prop := Claim7.holds Tryd.pinned (.plain (OpenSpec.ofChange volumeSizesSpec)) volumeSizesCard

/-- THE TIED CARD OF 'chatelainelaw06.VolumeSectors'. -/
def volumeSectorsCard : Claim7 := { stood := { row := volumeSectorsRow, standIns := [], harness := (true, "800e202c354355affc5e8843ab65368a5da343a91d94efb2ecb8003bdb988585"), looks := false }, kinds := [], alts := [], laidByText := true, laidKinds := [.data], laidTests := true, laidLooks := .later }
def VolumeSectorsCardSaid : Prop := Claim7.holds Tryd.pinned (.plain (OpenSpec.ofChange volumeSectorsSpec)) volumeSectorsCard

/-- THE TIED CARD OF 'chatelainelaw06.VolumePlaces'. -/
def volumePlacesCard : Claim7 := { stood := { row := volumePlacesRow, standIns := [], harness := (true, "800e202c354355affc5e8843ab65368a5da343a91d94efb2ecb8003bdb988585"), looks := false }, kinds := [], alts := [], laidByText := true, laidKinds := [.data], laidTests := true, laidLooks := .later }
def VolumePlacesCardSaid : Prop := Claim7.holds Tryd.pinned (.plain (OpenSpec.ofChange volumePlacesSpec)) volumePlacesCard

/-- THE TIED CARD OF 'chatelainelaw06.VolumeAll'. -/
def volumeAllCard : Claim7 := { stood := { row := volumeAllRow, standIns := [], harness := (true, "800e202c354355affc5e8843ab65368a5da343a91d94efb2ecb8003bdb988585"), looks := false }, kinds := [], alts := [], laidByText := true, laidKinds := [.data], laidTests := true, laidLooks := .later }
def VolumeAllCardSaid : Prop := Claim7.holds Tryd.pinned (.plain (OpenSpec.ofChange volumeAllSpec)) volumeAllCard

/-- THE TIED CARD OF 'chatelainelaw06.VolumeHomes'. -/
def volumeHomesCard : Claim7 := { stood := { row := volumeHomesRow, standIns := [], harness := (true, "800e202c354355affc5e8843ab65368a5da343a91d94efb2ecb8003bdb988585"), looks := false }, kinds := [], alts := [], laidByText := true, laidKinds := [.data], laidTests := true, laidLooks := .later }
def VolumeHomesCardSaid : Prop := Claim7.holds Tryd.pinned (.plain (OpenSpec.ofChange volumeHomesSpec)) volumeHomesCard

/-- THE TIED CARD OF 'chatelainelaw06.VolumeBack'. -/
def volumeBackCard : Claim7 := { stood := { row := volumeBackRow, standIns := [], harness := (true, "800e202c354355affc5e8843ab65368a5da343a91d94efb2ecb8003bdb988585"), looks := false }, kinds := [], alts := [], laidByText := true, laidKinds := [.data], laidTests := true, laidLooks := .later }
def VolumeBackCardSaid : Prop := Claim7.holds Tryd.pinned (.plain (OpenSpec.ofChange volumeBackSpec)) volumeBackCard

/-- THE SECOND FORM's CARD OF 'chatelainelaw06.VolumeSizes'. -/
def volumeSizesUptoCard : Claim7 := { stood := { row := volumeSizesUptoRow, standIns := [], harness := (true, "800e202c354355affc5e8843ab65368a5da343a91d94efb2ecb8003bdb988585"), looks := false }, kinds := [], alts := [], laidByText := true, laidKinds := [.data], laidTests := true, laidLooks := .later }
def VolumeSizesUptoCardSaid : Prop := Claim7.holds Tryd.pinned (.plain (OpenSpec.upto volumeSizesSpec)) volumeSizesUptoCard

/-- THE SECOND FORM's CARD OF 'chatelainelaw06.VolumeSectors'. -/
def volumeSectorsUptoCard : Claim7 := { stood := { row := volumeSectorsUptoRow, standIns := [], harness := (true, "800e202c354355affc5e8843ab65368a5da343a91d94efb2ecb8003bdb988585"), looks := false }, kinds := [], alts := [], laidByText := true, laidKinds := [.data], laidTests := true, laidLooks := .later }
def VolumeSectorsUptoCardSaid : Prop := Claim7.holds Tryd.pinned (.plain (OpenSpec.upto volumeSectorsSpec)) volumeSectorsUptoCard

/-- THE SECOND FORM's CARD OF 'chatelainelaw06.VolumePlaces'. -/
def volumePlacesUptoCard : Claim7 := { stood := { row := volumePlacesUptoRow, standIns := [], harness := (true, "800e202c354355affc5e8843ab65368a5da343a91d94efb2ecb8003bdb988585"), looks := false }, kinds := [], alts := [], laidByText := true, laidKinds := [.data], laidTests := true, laidLooks := .later }
def VolumePlacesUptoCardSaid : Prop := Claim7.holds Tryd.pinned (.plain (OpenSpec.upto volumePlacesSpec)) volumePlacesUptoCard

/-- THE SECOND FORM's CARD OF 'chatelainelaw06.VolumeAll'. -/
def volumeAllUptoCard : Claim7 := { stood := { row := volumeAllUptoRow, standIns := [], harness := (true, "800e202c354355affc5e8843ab65368a5da343a91d94efb2ecb8003bdb988585"), looks := false }, kinds := [], alts := [], laidByText := true, laidKinds := [.data], laidTests := true, laidLooks := .later }
def VolumeAllUptoCardSaid : Prop := Claim7.holds Tryd.pinned (.plain (OpenSpec.upto volumeAllSpec)) volumeAllUptoCard

/-- THE SECOND FORM's CARD OF 'chatelainelaw06.VolumeHomes'. -/
def volumeHomesUptoCard : Claim7 := { stood := { row := volumeHomesUptoRow, standIns := [], harness := (true, "800e202c354355affc5e8843ab65368a5da343a91d94efb2ecb8003bdb988585"), looks := false }, kinds := [], alts := [], laidByText := true, laidKinds := [.data], laidTests := true, laidLooks := .later }
def VolumeHomesUptoCardSaid : Prop := Claim7.holds Tryd.pinned (.plain (OpenSpec.upto volumeHomesSpec)) volumeHomesUptoCard

/-- THE SECOND FORM's CARD OF 'chatelainelaw06.VolumeBack'. -/
def volumeBackUptoCard : Claim7 := { stood := { row := volumeBackUptoRow, standIns := [], harness := (true, "800e202c354355affc5e8843ab65368a5da343a91d94efb2ecb8003bdb988585"), looks := false }, kinds := [], alts := [], laidByText := true, laidKinds := [.data], laidTests := true, laidLooks := .later }
def VolumeBackUptoCardSaid : Prop := Claim7.holds Tryd.pinned (.plain (OpenSpec.upto volumeBackSpec)) volumeBackUptoCard
end Rows
end Go.Proofs.YtfgkjonjkpcfiaaDoor
