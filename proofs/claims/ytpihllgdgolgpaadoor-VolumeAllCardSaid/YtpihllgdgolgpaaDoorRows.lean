/-
  NARROWER THAN 'FOR EVERY INPUT', by the rows' own cells (each row's printed sentence says how): VolumeAll: laid.
  DERIVED. THE GIVEN ROWS OF THIS SEAT. 1 by the template 'for every input the law returns true; each argument reads behind the call as it read before'; 0 by the template 'total and deterministic' (their statements: YtpihllgdgolgpaaDoorTotals.lean).
  GIVEN WITH THE SEED: the statements are not yours to turn. If you find one false, say at which input.
  Laid BY PROGRAM, IN A SANDBOX (cutbox-rows.mjs): the forced cells as the released guide's own fill.sh prints them over the translation 2b76a3048454ee62… (all of the seat's roots in one cut). By AI agents, Wed Nov 11 2026. No macro, syntax, notation, axiom, sorry.
-/
import Derived.Test.YtpihllgdgolgpaaDoorChecked
import GoSem.Claim
import GoSem.ClaimJoined
import GoSem.ClaimMapViews
import Derived.JoinedTies
import Derived.KernelRfl
namespace Go.Proofs.YtpihllgdgolgpaaDoor
/- THE CELL 'sum', in the pinned program and in every row, IS THE sha256 OF THE DUMP (.gsa) THAT YtpihllgdgolgpaaDoorProg.lean LOADS. Nothing in Lean hashes anything: it is a label: what it is worth is what the hold of that sum in a sandbox is worth. -/
noncomputable def Tryd.pinned : Pinned := { name := "ytpihllgdgolgpaadoor", sum := "2b76a3048454ee6282d7618e58b6e9c8e2f7ba5188c4f90425e8490320e5a4ba", checked := Tryd.checked }
namespace Rows
def none {H : Type} : Left H := { results := [], args := [] }

/- WHAT THE LISTED PACKAGE-LEVEL VARIABLES READ AS WHEN THE CALL BEGINS. Each datum BY PROGRAM (the guide's laid-datum.mjs) off the statement by which the dump's own 'gosem.cut.vars' lays the variable. In a bare row this is a premise. The card (YtpihllgdgolgpaaDoorCards.lean) ties it to the program's text. -/
def laid_chatelaine_volume_names {H : Type} : DataW H := .agg [.lit (.int .i64 0), .lit (.int .i64 2), .lit (.int .i64 1), .lit (.int .i64 3), .lit (.int .i64 3), .lit (.int .i64 2)]

/-- 'chatelainelaw06.VolumeAll': WHATEVER THE INPUT: true; the input reads as it did. -/
def volumeAllSpec : ChangeSpec := { name := "volumeAll", fn := fun _ => fun
  | [d] => { results := [.lit (.bool true)], args := [d] }
  | _ => none }
def volumeAllRow : OpenClaim := { program := "ytpihllgdgolgpaadoor", sum := "2b76a3048454ee6282d7618e58b6e9c8e2f7ba5188c4f90425e8490320e5a4ba", func := "chatelaine/chatelainelaw06.VolumeAll", spec := "volumeAll", unfollowed := true, recurses := true, named := ["chatelaine/volume.names"], apart := false, laid := [("chatelaine/volume.names", laid_chatelaine_volume_names)] }
def VolumeAllSaid : Prop := volumeAllRow.holds Tryd.pinned (OpenSpec.ofChange volumeAllSpec)

/-- ITS FALSE NEIGHBOUR: 'it returns false'. Refute it at one input. -/
def volumeAllWrong : ChangeSpec := { name := "volumeAll", fn := fun _ => fun
  | [d] => { results := [.lit (.bool false)], args := [d] }
  | _ => none }
def VolumeAllWrongFalsely : Prop := volumeAllRow.holds Tryd.pinned (OpenSpec.ofChange volumeAllWrong)

/- THE SECOND FORM. 'bulk': how many values and letters a reading holds, each counted each time it is reached (what is shared counts as often as it is met; a slice's spare places count too). A statement '..UptoSaid' is the law's where the arguments, and the package variables that the reading takes, are together of bulk at most 1048576: NARROWER than '..Said'. Prove '..Said' where nothing that the law and all that it calls make is longer than what came in: it says more and counts as full. Else prove '..UptoSaid'. A law counts once. -/
mutual
def uptoBulk {H : Type} : DataW H → Nat
  | .lit (.string bytes) => bytes.length + 1
  | .lit _ => 1
  | .nil => 1
  | .ptr d => uptoBulk d + 1
  | .slice elems spare => uptoBulkAll elems + uptoBulkAll spare + 1
  | .agg parts => uptoBulkAll parts + 1
  | .iface _ d => uptoBulk d + 1
  | .map entries => uptoBulkEntries entries + 1
  | .held _ => 1
def uptoBulkAll {H : Type} : List (DataW H) → Nat
  | [] => 0
  | d :: r => uptoBulk d + uptoBulkAll r
def uptoBulkEntries {H : Type} : List (Lit × DataW H) → Nat
  | [] => 0
  | x :: r => uptoBulkEntry x + uptoBulkEntries r
def uptoBulkEntry {H : Type} : Lit × DataW H → Nat
  | (.string bytes, d) => bytes.length + uptoBulk d + 1
  | (_, d) => uptoBulk d + 1
 end
def uptoSmall : (H : Type) → List (DataW H) → Bool := fun _ ds => decide (uptoBulkAll ds ≤ 1048576)
def OpenSpec.upto (s : _root_.Go.ChangeSpec) : _root_.Go.OpenSpec := { _root_.Go.OpenSpec.ofChange s with cond := some uptoSmall }

/-- 'chatelainelaw06.VolumeAll', WHERE WHAT IT READS IS OF BULK AT MOST 1048576: true; the input reads as it did. -/
def volumeAllUptoRow : OpenClaim := { program := "ytpihllgdgolgpaadoor", sum := "2b76a3048454ee6282d7618e58b6e9c8e2f7ba5188c4f90425e8490320e5a4ba", func := "chatelaine/chatelainelaw06.VolumeAll", spec := "volumeAll", unfollowed := true, recurses := true, named := ["chatelaine/volume.names"], apart := false, laid := [("chatelaine/volume.names", laid_chatelaine_volume_names)], narrowed := true }
def VolumeAllUptoSaid : Prop := volumeAllUptoRow.holds Tryd.pinned (OpenSpec.upto volumeAllSpec)

end Rows
end Go.Proofs.YtpihllgdgolgpaaDoor
