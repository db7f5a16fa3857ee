/-
  NARROWER THAN 'FOR EVERY INPUT', by the rows' own cells (each row's printed sentence says how): BanksNever: laid · BanksFull: laid · BanksSplit: laid · BanksNil: laid.
  DERIVED. THE GIVEN ROWS OF THIS SEAT. 4 by the template 'for every input the law returns true; each argument reads behind the call as it read before'; 0 by the template 'total and deterministic' (their statements: YteodgefnbmiblaaDoorTotals.lean).
  GIVEN WITH THE SEED: the statements are not yours to turn. If you find one false, say at which input.
  Laid BY PROGRAM, IN A SANDBOX (cutbox-rows.mjs): the forced cells as the released guide's own fill.sh prints them over the translation f79ed5e143c71d42… (all of the seat's roots in one cut). By AI agents, Wed Nov 11 2026. No macro, syntax, notation, axiom, sorry.
-/
import Derived.Test.YteodgefnbmiblaaDoorChecked
import GoSem.Claim
import GoSem.ClaimJoined
import GoSem.ClaimMapViews
import Derived.JoinedTies
import Derived.KernelRfl
namespace Go.Proofs.YteodgefnbmiblaaDoor
/- THE CELL 'sum', in the pinned program and in every row, IS THE sha256 OF THE DUMP (.gsa) THAT YteodgefnbmiblaaDoorProg.lean LOADS. Nothing in Lean hashes anything: it is a label: what it is worth is what the hold of that sum in a sandbox is worth. -/
noncomputable def Tryd.pinned : Pinned := { name := "yteodgefnbmiblaadoor", sum := "f79ed5e143c71d42bc2847f46b59ed3289c7422d24da8fa7f7d778f9761ce655", checked := Tryd.checked }
namespace Rows
def none {H : Type} : Left H := { results := [], args := [] }

/- WHAT THE LISTED PACKAGE-LEVEL VARIABLES READ AS WHEN THE CALL BEGINS. Each datum BY PROGRAM (the guide's laid-datum.mjs) off the statement by which the dump's own 'gosem.cut.vars' lays the variable. In a bare row this is a premise. The card (YteodgefnbmiblaaDoorCards.lean) ties it to the program's text. -/
def laid_chatelaine_keys_kinds {H : Type} : DataW H := .agg [.agg [.lit (.string [118, 111, 105, 100]), .lit (.int .i64 0), .lit (.int .i64 0), .lit (.int .i64 0), .lit (.int .i64 0), .lit (.int .i64 0), .lit (.bool false)], .agg [.lit (.string [110, 117, 109, 98, 101, 114]), .lit (.int .i64 0), .lit (.int .i64 0), .lit (.int .i64 0), .lit (.int .i64 0), .lit (.int .i64 0), .lit (.bool true)], .agg [.lit (.string [110, 111, 100, 101]), .lit (.int .i64 1), .lit (.int .i64 63), .lit (.int .i64 4294967295), .lit (.int .i64 0), .lit (.int .i64 7), .lit (.bool false)], .agg [.lit (.string [112, 97, 103, 101]), .lit (.int .i64 2), .lit (.int .i64 63), .lit (.int .i64 4294967295), .lit (.int .i64 0), .lit (.int .i64 1), .lit (.bool false)], .agg [.lit (.string [98, 97, 110, 107]), .lit (.int .i64 1), .lit (.int .i64 63), .lit (.int .i64 4294967295), .lit (.int .i64 0), .lit (.int .i64 0), .lit (.bool false)], .agg [.lit (.string [112, 114, 111, 99]), .lit (.int .i64 1), .lit (.int .i64 63), .lit (.int .i64 4294967295), .lit (.int .i64 0), .lit (.int .i64 0), .lit (.bool false)], .agg [.lit (.string [115, 116, 97, 114, 116]), .lit (.int .i64 1), .lit (.int .i64 63), .lit (.int .i64 4294967295), .lit (.int .i64 0), .lit (.int .i64 0), .lit (.bool true)], .agg [.lit (.string [114, 101, 115, 117, 109, 101]), .lit (.int .i64 1), .lit (.int .i64 63), .lit (.int .i64 4294967295), .lit (.int .i64 4294967295), .lit (.int .i64 0), .lit (.bool false)], .agg [.lit (.string [100, 105, 115, 99, 114, 105, 109]), .lit (.int .i64 0), .lit (.int .i64 0), .lit (.int .i64 0), .lit (.int .i64 0), .lit (.int .i64 0), .lit (.bool false)], .agg [.lit (.string [99, 108, 111, 99, 107]), .lit (.int .i64 0), .lit (.int .i64 0), .lit (.int .i64 0), .lit (.int .i64 0), .lit (.int .i64 0), .lit (.bool false)], .agg [.lit (.string [99, 104, 101, 99, 107]), .lit (.int .i64 0), .lit (.int .i64 0), .lit (.int .i64 0), .lit (.int .i64 0), .lit (.int .i64 0), .lit (.bool false)]]

/-- 'chatelainelaw12.BanksNever': WHATEVER THE INPUT: true; the input reads as it did. -/
def banksNeverSpec : ChangeSpec := { name := "banksNever", fn := fun _ => fun
  | [d1, d2, d3] => { results := [.lit (.bool true)], args := [d1, d2, d3] }
  | _ => none }
def banksNeverRow : OpenClaim := { program := "yteodgefnbmiblaadoor", sum := "f79ed5e143c71d42bc2847f46b59ed3289c7422d24da8fa7f7d778f9761ce655", func := "chatelaine/chatelainelaw12.BanksNever", spec := "banksNever", unfollowed := true, recurses := true, named := ["chatelaine/keys.kinds"], apart := false, laid := [("chatelaine/keys.kinds", laid_chatelaine_keys_kinds)] }
def BanksNeverSaid : Prop := banksNeverRow.holds Tryd.pinned (OpenSpec.ofChange banksNeverSpec)

/-- ITS FALSE NEIGHBOUR: 'it returns false'. Refute it at one input. -/
def banksNeverWrong : ChangeSpec := { name := "banksNever", fn := fun _ => fun
  | [d1, d2, d3] => { results := [.lit (.bool false)], args := [d1, d2, d3] }
  | _ => none }
def BanksNeverWrongFalsely : Prop := banksNeverRow.holds Tryd.pinned (OpenSpec.ofChange banksNeverWrong)

/-- 'chatelainelaw12.BanksFull': WHATEVER THE INPUT: true; the input reads as it did. -/
def banksFullSpec : ChangeSpec := { name := "banksFull", fn := fun _ => fun
  | [d1, d2] => { results := [.lit (.bool true)], args := [d1, d2] }
  | _ => none }
def banksFullRow : OpenClaim := { program := "yteodgefnbmiblaadoor", sum := "f79ed5e143c71d42bc2847f46b59ed3289c7422d24da8fa7f7d778f9761ce655", func := "chatelaine/chatelainelaw12.BanksFull", spec := "banksFull", unfollowed := true, recurses := true, named := ["chatelaine/keys.kinds"], apart := false, laid := [("chatelaine/keys.kinds", laid_chatelaine_keys_kinds)] }
def BanksFullSaid : Prop := banksFullRow.holds Tryd.pinned (OpenSpec.ofChange banksFullSpec)

/-- ITS FALSE NEIGHBOUR: 'it returns false'. Refute it at one input. -/
def banksFullWrong : ChangeSpec := { name := "banksFull", fn := fun _ => fun
  | [d1, d2] => { results := [.lit (.bool false)], args := [d1, d2] }
  | _ => none }
def BanksFullWrongFalsely : Prop := banksFullRow.holds Tryd.pinned (OpenSpec.ofChange banksFullWrong)

/-- 'chatelainelaw12.BanksSplit': WHATEVER THE INPUT: true; the input reads as it did. -/
def banksSplitSpec : ChangeSpec := { name := "banksSplit", fn := fun _ => fun
  | [d1, d2, d3] => { results := [.lit (.bool true)], args := [d1, d2, d3] }
  | _ => none }
def banksSplitRow : OpenClaim := { program := "yteodgefnbmiblaadoor", sum := "f79ed5e143c71d42bc2847f46b59ed3289c7422d24da8fa7f7d778f9761ce655", func := "chatelaine/chatelainelaw12.BanksSplit", spec := "banksSplit", unfollowed := true, recurses := true, named := ["chatelaine/keys.kinds"], apart := false, laid := [("chatelaine/keys.kinds", laid_chatelaine_keys_kinds)] }
def BanksSplitSaid : Prop := banksSplitRow.holds Tryd.pinned (OpenSpec.ofChange banksSplitSpec)

/-- ITS FALSE NEIGHBOUR: 'it returns false'. Refute it at one input. -/
def banksSplitWrong : ChangeSpec := { name := "banksSplit", fn := fun _ => fun
  | [d1, d2, d3] => { results := [.lit (.bool false)], args := [d1, d2, d3] }
  | _ => none }
def BanksSplitWrongFalsely : Prop := banksSplitRow.holds Tryd.pinned (OpenSpec.ofChange banksSplitWrong)

/-- 'chatelainelaw12.BanksNil': WHATEVER THE INPUT: true; the input reads as it did. -/
def banksNilSpec : ChangeSpec := { name := "banksNil", fn := fun _ => fun
  | [d] => { results := [.lit (.bool true)], args := [d] }
  | _ => none }
def banksNilRow : OpenClaim := { program := "yteodgefnbmiblaadoor", sum := "f79ed5e143c71d42bc2847f46b59ed3289c7422d24da8fa7f7d778f9761ce655", func := "chatelaine/chatelainelaw12.BanksNil", spec := "banksNil", unfollowed := true, recurses := true, named := ["chatelaine/keys.kinds"], apart := false, laid := [("chatelaine/keys.kinds", laid_chatelaine_keys_kinds)] }
def BanksNilSaid : Prop := banksNilRow.holds Tryd.pinned (OpenSpec.ofChange banksNilSpec)

/-- ITS FALSE NEIGHBOUR: 'it returns false'. Refute it at one input. -/
def banksNilWrong : ChangeSpec := { name := "banksNil", fn := fun _ => fun
  | [d] => { results := [.lit (.bool false)], args := [d] }
  | _ => none }
def BanksNilWrongFalsely : Prop := banksNilRow.holds Tryd.pinned (OpenSpec.ofChange banksNilWrong)

/- THE SECOND FORM. 'bulk': how many values and letters a reading holds, each counted each time it is reached (what is shared counts as often as it is met; a slice's spare places count too). A statement '..UptoSaid' is the law's where the arguments, and the package variables that the reading takes, are together of bulk at most 1048576: NARROWER than '..Said'. Prove '..Said' where nothing that the law and all that it calls make is longer than what came in: it says more and counts as full. Else prove '..UptoSaid'. A law counts once. -/
mutual
def uptoBulk {H : Type} : DataW H → Nat
  | .lit (.string bytes) => bytes.length + 1
  | .lit _ => 1
  | .nil => 1
  | .ptr d => uptoBulk d + 1
  | .slice elems spare => uptoBulkAll elems + uptoBulkAll spare + 1
  | .agg parts => uptoBulkAll parts + 1
  | .iface _ d => uptoBulk d + 1
  | .map entries => uptoBulkEntries entries + 1
  | .held _ => 1
def uptoBulkAll {H : Type} : List (DataW H) → Nat
  | [] => 0
  | d :: r => uptoBulk d + uptoBulkAll r
def uptoBulkEntries {H : Type} : List (Lit × DataW H) → Nat
  | [] => 0
  | x :: r => uptoBulkEntry x + uptoBulkEntries r
def uptoBulkEntry {H : Type} : Lit × DataW H → Nat
  | (.string bytes, d) => bytes.length + uptoBulk d + 1
  | (_, d) => uptoBulk d + 1
 end
def uptoSmall : (H : Type) → List (DataW H) → Bool := fun _ ds => decide (uptoBulkAll ds ≤ 1048576)
def OpenSpec.upto (s : _root_.Go.ChangeSpec) : _root_.Go.OpenSpec := { _root_.Go.OpenSpec.ofChange s with cond := some uptoSmall }

/-- 'chatelainelaw12.BanksNever', WHERE WHAT IT READS IS OF BULK AT MOST 1048576: true; the input reads as it did. -/
def banksNeverUptoRow : OpenClaim := { program := "yteodgefnbmiblaadoor", sum := "f79ed5e143c71d42bc2847f46b59ed3289c7422d24da8fa7f7d778f9761ce655", func := "chatelaine/chatelainelaw12.BanksNever", spec := "banksNever", unfollowed := true, recurses := true, named := ["chatelaine/keys.kinds"], apart := false, laid := [("chatelaine/keys.kinds", laid_chatelaine_keys_kinds)], narrowed := true }
def BanksNeverUptoSaid : Prop := banksNeverUptoRow.holds Tryd.pinned (OpenSpec.upto banksNeverSpec)

/-- 'chatelainelaw12.BanksFull', WHERE WHAT IT READS IS OF BULK AT MOST 1048576: true; the input reads as it did. -/
def banksFullUptoRow : OpenClaim := { program := "yteodgefnbmiblaadoor", sum := "f79ed5e143c71d42bc2847f46b59ed3289c7422d24da8fa7f7d778f9761ce655", func := "chatelaine/chatelainelaw12.BanksFull", spec := "banksFull", unfollowed := true, recurses := true, named := ["chatelaine/keys.kinds"], apart := false, laid := [("chatelaine/keys.kinds", laid_chatelaine_keys_kinds)], narrowed := true }
def BanksFullUptoSaid : Prop := banksFullUptoRow.holds Tryd.pinned (OpenSpec.upto banksFullSpec)

/-- 'chatelainelaw12.BanksSplit', WHERE WHAT IT READS IS OF BULK AT MOST 1048576: true; the input reads as it did. -/
def banksSplitUptoRow : OpenClaim := { program := "yteodgefnbmiblaadoor", sum := "f79ed5e143c71d42bc2847f46b59ed3289c7422d24da8fa7f7d778f9761ce655", func := "chatelaine/chatelainelaw12.BanksSplit", spec := "banksSplit", unfollowed := true, recurses := true, named := ["chatelaine/keys.kinds"], apart := false, laid := [("chatelaine/keys.kinds", laid_chatelaine_keys_kinds)], narrowed := true }
def BanksSplitUptoSaid : Prop := banksSplitUptoRow.holds Tryd.pinned (OpenSpec.upto banksSplitSpec)

/-- 'chatelainelaw12.BanksNil', WHERE WHAT IT READS IS OF BULK AT MOST 1048576: true; the input reads as it did. -/
def banksNilUptoRow : OpenClaim := { program := "yteodgefnbmiblaadoor", sum := "f79ed5e143c71d42bc2847f46b59ed3289c7422d24da8fa7f7d778f9761ce655", func := "chatelaine/chatelainelaw12.BanksNil", spec := "banksNil", unfollowed := true, recurses := true, named := ["chatelaine/keys.kinds"], apart := false, laid := [("chatelaine/keys.kinds", laid_chatelaine_keys_kinds)], narrowed := true }
def BanksNilUptoSaid : Prop := banksNilUptoRow.holds Tryd.pinned (OpenSpec.upto banksNilSpec)

end Rows
end Go.Proofs.YteodgefnbmiblaaDoor
