/-
  NARROWER THAN 'FOR EVERY INPUT', by the rows' own cells (each row's printed sentence says how): ProcsPlay: laid · ProcsOne: laid · ProcsOnce: laid · ProcsStates: laid.
  DERIVED. THE GIVEN ROWS OF THIS SEAT. 4 by the template 'for every input the law returns true; each argument reads behind the call as it read before'; 0 by the template 'total and deterministic' (their statements: YtljfddeolapeaaaDoorTotals.lean).
  GIVEN WITH THE SEED: the statements are not yours to turn. If you find one false, say at which input.
  Laid BY PROGRAM, IN A SANDBOX (cutbox-rows.mjs): the forced cells as the released guide's own fill.sh prints them over the translation 66177e032556b506… (all of the seat's roots in one cut). By AI agents, Wed Nov 11 2026. No macro, syntax, notation, axiom, sorry.
-/
import Derived.Test.YtljfddeolapeaaaDoorChecked
import GoSem.Claim
import GoSem.ClaimJoined
import GoSem.ClaimMapViews
import Derived.JoinedTies
import Derived.KernelRfl
namespace Go.Proofs.YtljfddeolapeaaaDoor
/- THE CELL 'sum', in the pinned program and in every row, IS THE sha256 OF THE DUMP (.gsa) THAT YtljfddeolapeaaaDoorProg.lean LOADS. Nothing in Lean hashes anything: it is a label: what it is worth is what the hold of that sum in a sandbox is worth. -/
noncomputable def Tryd.pinned : Pinned := { name := "ytljfddeolapeaaadoor", sum := "66177e032556b506d88d577a51b884b70ea35106b229a2cbd4560ab60f1d6170", checked := Tryd.checked }
namespace Rows
def none {H : Type} : Left H := { results := [], args := [] }

/- WHAT THE LISTED PACKAGE-LEVEL VARIABLES READ AS WHEN THE CALL BEGINS. Each datum BY PROGRAM (the guide's laid-datum.mjs) off the statement by which the dump's own 'gosem.cut.vars' lays the variable. In a bare row this is a premise. The card (YtljfddeolapeaaaDoorCards.lean) ties it to the program's text. -/
def laid_chatelaine_keys_kinds {H : Type} : DataW H := .agg [.agg [.lit (.string [118, 111, 105, 100]), .lit (.int .i64 0), .lit (.int .i64 0), .lit (.int .i64 0), .lit (.int .i64 0), .lit (.int .i64 0), .lit (.bool false)], .agg [.lit (.string [110, 117, 109, 98, 101, 114]), .lit (.int .i64 0), .lit (.int .i64 0), .lit (.int .i64 0), .lit (.int .i64 0), .lit (.int .i64 0), .lit (.bool true)], .agg [.lit (.string [110, 111, 100, 101]), .lit (.int .i64 1), .lit (.int .i64 63), .lit (.int .i64 4294967295), .lit (.int .i64 0), .lit (.int .i64 7), .lit (.bool false)], .agg [.lit (.string [112, 97, 103, 101]), .lit (.int .i64 2), .lit (.int .i64 63), .lit (.int .i64 4294967295), .lit (.int .i64 0), .lit (.int .i64 1), .lit (.bool false)], .agg [.lit (.string [98, 97, 110, 107]), .lit (.int .i64 1), .lit (.int .i64 63), .lit (.int .i64 4294967295), .lit (.int .i64 0), .lit (.int .i64 0), .lit (.bool false)], .agg [.lit (.string [112, 114, 111, 99]), .lit (.int .i64 1), .lit (.int .i64 63), .lit (.int .i64 4294967295), .lit (.int .i64 0), .lit (.int .i64 0), .lit (.bool false)], .agg [.lit (.string [115, 116, 97, 114, 116]), .lit (.int .i64 1), .lit (.int .i64 63), .lit (.int .i64 4294967295), .lit (.int .i64 0), .lit (.int .i64 0), .lit (.bool true)], .agg [.lit (.string [114, 101, 115, 117, 109, 101]), .lit (.int .i64 1), .lit (.int .i64 63), .lit (.int .i64 4294967295), .lit (.int .i64 4294967295), .lit (.int .i64 0), .lit (.bool false)], .agg [.lit (.string [100, 105, 115, 99, 114, 105, 109]), .lit (.int .i64 0), .lit (.int .i64 0), .lit (.int .i64 0), .lit (.int .i64 0), .lit (.int .i64 0), .lit (.bool false)], .agg [.lit (.string [99, 108, 111, 99, 107]), .lit (.int .i64 0), .lit (.int .i64 0), .lit (.int .i64 0), .lit (.int .i64 0), .lit (.int .i64 0), .lit (.bool false)], .agg [.lit (.string [99, 104, 101, 99, 107]), .lit (.int .i64 0), .lit (.int .i64 0), .lit (.int .i64 0), .lit (.int .i64 0), .lit (.int .i64 0), .lit (.bool false)]]

/-- 'chatelainelaw13.ProcsPlay': WHATEVER THE INPUT: true; the input reads as it did. -/
def procsPlaySpec : ChangeSpec := { name := "procsPlay", fn := fun _ => fun
  | [d1, d2] => { results := [.lit (.bool true)], args := [d1, d2] }
  | _ => none }
def procsPlayRow : OpenClaim := { program := "ytljfddeolapeaaadoor", sum := "66177e032556b506d88d577a51b884b70ea35106b229a2cbd4560ab60f1d6170", func := "chatelaine/chatelainelaw13.ProcsPlay", spec := "procsPlay", unfollowed := true, recurses := true, named := ["chatelaine/keys.kinds"], apart := false, laid := [("chatelaine/keys.kinds", laid_chatelaine_keys_kinds)] }
def ProcsPlaySaid : Prop := procsPlayRow.holds Tryd.pinned (OpenSpec.ofChange procsPlaySpec)

/-- ITS FALSE NEIGHBOUR: 'it returns false'. Refute it at one input. -/
def procsPlayWrong : ChangeSpec := { name := "procsPlay", fn := fun _ => fun
  | [d1, d2] => { results := [.lit (.bool false)], args := [d1, d2] }
  | _ => none }
def ProcsPlayWrongFalsely : Prop := procsPlayRow.holds Tryd.pinned (OpenSpec.ofChange procsPlayWrong)

/-- 'chatelainelaw13.ProcsOne': WHATEVER THE INPUT: true; the input reads as it did. -/
def procsOneSpec : ChangeSpec := { name := "procsOne", fn := fun _ => fun
  | [d1, d2] => { results := [.lit (.bool true)], args := [d1, d2] }
  | _ => none }
def procsOneRow : OpenClaim := { program := "ytljfddeolapeaaadoor", sum := "66177e032556b506d88d577a51b884b70ea35106b229a2cbd4560ab60f1d6170", func := "chatelaine/chatelainelaw13.ProcsOne", spec := "procsOne", unfollowed := true, recurses := true, named := ["chatelaine/keys.kinds"], apart := false, laid := [("chatelaine/keys.kinds", laid_chatelaine_keys_kinds)] }
def ProcsOneSaid : Prop := procsOneRow.holds Tryd.pinned (OpenSpec.ofChange procsOneSpec)

/-- ITS FALSE NEIGHBOUR: 'it returns false'. Refute it at one input. -/
def procsOneWrong : ChangeSpec := { name := "procsOne", fn := fun _ => fun
  | [d1, d2] => { results := [.lit (.bool false)], args := [d1, d2] }
  | _ => none }
def ProcsOneWrongFalsely : Prop := procsOneRow.holds Tryd.pinned (OpenSpec.ofChange procsOneWrong)

/-- 'chatelainelaw13.ProcsOnce': WHATEVER THE INPUT: true; the input reads as it did. -/
def procsOnceSpec : ChangeSpec := { name := "procsOnce", fn := fun _ => fun
  | [d1, d2, d3] => { results := [.lit (.bool true)], args := [d1, d2, d3] }
  | _ => none }
def procsOnceRow : OpenClaim := { program := "ytljfddeolapeaaadoor", sum := "66177e032556b506d88d577a51b884b70ea35106b229a2cbd4560ab60f1d6170", func := "chatelaine/chatelainelaw13.ProcsOnce", spec := "procsOnce", unfollowed := true, recurses := true, named := ["chatelaine/keys.kinds"], apart := false, laid := [("chatelaine/keys.kinds", laid_chatelaine_keys_kinds)] }
def ProcsOnceSaid : Prop := procsOnceRow.holds Tryd.pinned (OpenSpec.ofChange procsOnceSpec)

/-- ITS FALSE NEIGHBOUR: 'it returns false'. Refute it at one input. -/
def procsOnceWrong : ChangeSpec := { name := "procsOnce", fn := fun _ => fun
  | [d1, d2, d3] => { results := [.lit (.bool false)], args := [d1, d2, d3] }
  | _ => none }
def ProcsOnceWrongFalsely : Prop := procsOnceRow.holds Tryd.pinned (OpenSpec.ofChange procsOnceWrong)

/-- 'chatelainelaw13.ProcsStates': WHATEVER THE INPUT: true; the input reads as it did. -/
def procsStatesSpec : ChangeSpec := { name := "procsStates", fn := fun _ => fun
  | [d1, d2, d3] => { results := [.lit (.bool true)], args := [d1, d2, d3] }
  | _ => none }
def procsStatesRow : OpenClaim := { program := "ytljfddeolapeaaadoor", sum := "66177e032556b506d88d577a51b884b70ea35106b229a2cbd4560ab60f1d6170", func := "chatelaine/chatelainelaw13.ProcsStates", spec := "procsStates", unfollowed := true, recurses := true, named := ["chatelaine/keys.kinds"], apart := false, laid := [("chatelaine/keys.kinds", laid_chatelaine_keys_kinds)] }
def ProcsStatesSaid : Prop := procsStatesRow.holds Tryd.pinned (OpenSpec.ofChange procsStatesSpec)

/-- ITS FALSE NEIGHBOUR: 'it returns false'. Refute it at one input. -/
def procsStatesWrong : ChangeSpec := { name := "procsStates", fn := fun _ => fun
  | [d1, d2, d3] => { results := [.lit (.bool false)], args := [d1, d2, d3] }
  | _ => none }
def ProcsStatesWrongFalsely : Prop := procsStatesRow.holds Tryd.pinned (OpenSpec.ofChange procsStatesWrong)

/- THE SECOND FORM. 'bulk': how many values and letters a reading holds, each counted each time it is reached (what is shared counts as often as it is met; a slice's spare places count too). A statement '..UptoSaid' is the law's where the arguments, and the package variables that the reading takes, are together of bulk at most 1048576: NARROWER than '..Said'. Prove '..Said' where nothing that the law and all that it calls make is longer than what came in: it says more and counts as full. Else prove '..UptoSaid'. A law counts once. -/
mutual
def uptoBulk {H : Type} : DataW H → Nat
  | .lit (.string bytes) => bytes.length + 1
  | .lit _ => 1
  | .nil => 1
  | .ptr d => uptoBulk d + 1
  | .slice elems spare => uptoBulkAll elems + uptoBulkAll spare + 1
  | .agg parts => uptoBulkAll parts + 1
  | .iface _ d => uptoBulk d + 1
  | .map entries => uptoBulkEntries entries + 1
  | .held _ => 1
def uptoBulkAll {H : Type} : List (DataW H) → Nat
  | [] => 0
  | d :: r => uptoBulk d + uptoBulkAll r
def uptoBulkEntries {H : Type} : List (Lit × DataW H) → Nat
  | [] => 0
  | x :: r => uptoBulkEntry x + uptoBulkEntries r
def uptoBulkEntry {H : Type} : Lit × DataW H → Nat
  | (.string bytes, d) => bytes.length + uptoBulk d + 1
  | (_, d) => uptoBulk d + 1
 end
def uptoSmall : (H : Type) → List (DataW H) → Bool := fun _ ds => decide (uptoBulkAll ds ≤ 1048576)
def OpenSpec.upto (s : _root_.Go.ChangeSpec) : _root_.Go.OpenSpec := { _root_.Go.OpenSpec.ofChange s with cond := some uptoSmall }

/-- 'chatelainelaw13.ProcsPlay', WHERE WHAT IT READS IS OF BULK AT MOST 1048576: true; the input reads as it did. -/
def procsPlayUptoRow : OpenClaim := { program := "ytljfddeolapeaaadoor", sum := "66177e032556b506d88d577a51b884b70ea35106b229a2cbd4560ab60f1d6170", func := "chatelaine/chatelainelaw13.ProcsPlay", spec := "procsPlay", unfollowed := true, recurses := true, named := ["chatelaine/keys.kinds"], apart := false, laid := [("chatelaine/keys.kinds", laid_chatelaine_keys_kinds)], narrowed := true }
def ProcsPlayUptoSaid : Prop := procsPlayUptoRow.holds Tryd.pinned (OpenSpec.upto procsPlaySpec)

/-- 'chatelainelaw13.ProcsOne', WHERE WHAT IT READS IS OF BULK AT MOST 1048576: true; the input reads as it did. -/
def procsOneUptoRow : OpenClaim := { program := "ytljfddeolapeaaadoor", sum := "66177e032556b506d88d577a51b884b70ea35106b229a2cbd4560ab60f1d6170", func := "chatelaine/chatelainelaw13.ProcsOne", spec := "procsOne", unfollowed := true, recurses := true, named := ["chatelaine/keys.kinds"], apart := false, laid := [("chatelaine/keys.kinds", laid_chatelaine_keys_kinds)], narrowed := true }
def ProcsOneUptoSaid : Prop := procsOneUptoRow.holds Tryd.pinned (OpenSpec.upto procsOneSpec)

/-- 'chatelainelaw13.ProcsOnce', WHERE WHAT IT READS IS OF BULK AT MOST 1048576: true; the input reads as it did. -/
def procsOnceUptoRow : OpenClaim := { program := "ytljfddeolapeaaadoor", sum := "66177e032556b506d88d577a51b884b70ea35106b229a2cbd4560ab60f1d6170", func := "chatelaine/chatelainelaw13.ProcsOnce", spec := "procsOnce", unfollowed := true, recurses := true, named := ["chatelaine/keys.kinds"], apart := false, laid := [("chatelaine/keys.kinds", laid_chatelaine_keys_kinds)], narrowed := true }
def ProcsOnceUptoSaid : Prop := procsOnceUptoRow.holds Tryd.pinned (OpenSpec.upto procsOnceSpec)

/-- 'chatelainelaw13.ProcsStates', WHERE WHAT IT READS IS OF BULK AT MOST 1048576: true; the input reads as it did. -/
def procsStatesUptoRow : OpenClaim := { program := "ytljfddeolapeaaadoor", sum := "66177e032556b506d88d577a51b884b70ea35106b229a2cbd4560ab60f1d6170", func := "chatelaine/chatelainelaw13.ProcsStates", spec := "procsStates", unfollowed := true, recurses := true, named := ["chatelaine/keys.kinds"], apart := false, laid := [("chatelaine/keys.kinds", laid_chatelaine_keys_kinds)], narrowed := true }
def ProcsStatesUptoSaid : Prop := procsStatesUptoRow.holds Tryd.pinned (OpenSpec.upto procsStatesSpec)

end Rows
end Go.Proofs.YtljfddeolapeaaaDoor
