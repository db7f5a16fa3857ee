/-
  NARROWER THAN 'FOR EVERY INPUT', by the rows' own cells (each row's printed sentence says how): ObjectsCheck: laid · ObjectsOf: laid · ObjectsPlay: laid · ObjectsKeys: laid · ObjectsUnlike: laid · ObjectsAll: laid · ObjectsNil: laid · ObjectsNear: laid.
  DERIVED. THE GIVEN ROWS OF THIS SEAT. 8 by the template 'for every input the law returns true; each argument reads behind the call as it read before'; 0 by the template 'total and deterministic' (their statements: YtlhlgfehbfankaaDoorTotals.lean).
  GIVEN WITH THE SEED: the statements are not yours to turn. If you find one false, say at which input.
  Laid BY PROGRAM, IN A SANDBOX (cutbox-rows.mjs): the forced cells as the released guide's own fill.sh prints them over the translation 802b5b9b0cee0e13… (all of the seat's roots in one cut). By AI agents, Wed Nov 11 2026. No macro, syntax, notation, axiom, sorry.
-/
import Derived.Test.YtlhlgfehbfankaaDoorChecked
import GoSem.Claim
import GoSem.ClaimJoined
import GoSem.ClaimMapViews
import Derived.JoinedTies
import Derived.KernelRfl
namespace Go.Proofs.YtlhlgfehbfankaaDoor
/- THE CELL 'sum', in the pinned program and in every row, IS THE sha256 OF THE DUMP (.gsa) THAT YtlhlgfehbfankaaDoorProg.lean LOADS. Nothing in Lean hashes anything: it is a label: what it is worth is what the hold of that sum in a sandbox is worth. -/
noncomputable def Tryd.pinned : Pinned := { name := "ytlhlgfehbfankaadoor", sum := "802b5b9b0cee0e13b8bb00b1c2d43bf4c9f2a0f675cd4e5b0c1f9e55202ad8fb", checked := Tryd.checked }
namespace Rows
def none {H : Type} : Left H := { results := [], args := [] }

/- WHAT THE LISTED PACKAGE-LEVEL VARIABLES READ AS WHEN THE CALL BEGINS. Each datum BY PROGRAM (the guide's laid-datum.mjs) off the statement by which the dump's own 'gosem.cut.vars' lays the variable. In a bare row this is a premise. The card (YtlhlgfehbfankaaDoorCards.lean) ties it to the program's text. -/
def laid_chatelaine_keys_kinds {H : Type} : DataW H := .agg [.agg [.lit (.string [118, 111, 105, 100]), .lit (.int .i64 0), .lit (.int .i64 0), .lit (.int .i64 0), .lit (.int .i64 0), .lit (.int .i64 0), .lit (.bool false)], .agg [.lit (.string [110, 117, 109, 98, 101, 114]), .lit (.int .i64 0), .lit (.int .i64 0), .lit (.int .i64 0), .lit (.int .i64 0), .lit (.int .i64 0), .lit (.bool true)], .agg [.lit (.string [110, 111, 100, 101]), .lit (.int .i64 1), .lit (.int .i64 63), .lit (.int .i64 4294967295), .lit (.int .i64 0), .lit (.int .i64 7), .lit (.bool false)], .agg [.lit (.string [112, 97, 103, 101]), .lit (.int .i64 2), .lit (.int .i64 63), .lit (.int .i64 4294967295), .lit (.int .i64 0), .lit (.int .i64 1), .lit (.bool false)], .agg [.lit (.string [98, 97, 110, 107]), .lit (.int .i64 1), .lit (.int .i64 63), .lit (.int .i64 4294967295), .lit (.int .i64 0), .lit (.int .i64 0), .lit (.bool false)], .agg [.lit (.string [112, 114, 111, 99]), .lit (.int .i64 1), .lit (.int .i64 63), .lit (.int .i64 4294967295), .lit (.int .i64 0), .lit (.int .i64 0), .lit (.bool false)], .agg [.lit (.string [115, 116, 97, 114, 116]), .lit (.int .i64 1), .lit (.int .i64 63), .lit (.int .i64 4294967295), .lit (.int .i64 0), .lit (.int .i64 0), .lit (.bool true)], .agg [.lit (.string [114, 101, 115, 117, 109, 101]), .lit (.int .i64 1), .lit (.int .i64 63), .lit (.int .i64 4294967295), .lit (.int .i64 4294967295), .lit (.int .i64 0), .lit (.bool false)], .agg [.lit (.string [100, 105, 115, 99, 114, 105, 109]), .lit (.int .i64 0), .lit (.int .i64 0), .lit (.int .i64 0), .lit (.int .i64 0), .lit (.int .i64 0), .lit (.bool false)], .agg [.lit (.string [99, 108, 111, 99, 107]), .lit (.int .i64 0), .lit (.int .i64 0), .lit (.int .i64 0), .lit (.int .i64 0), .lit (.int .i64 0), .lit (.bool false)], .agg [.lit (.string [99, 104, 101, 99, 107]), .lit (.int .i64 0), .lit (.int .i64 0), .lit (.int .i64 0), .lit (.int .i64 0), .lit (.int .i64 0), .lit (.bool false)]]

/-- 'chatelainelaw04.ObjectsCheck': WHATEVER THE INPUT: true; the input reads as it did. -/
def objectsCheckSpec : ChangeSpec := { name := "objectsCheck", fn := fun _ => fun
  | [d1, d2] => { results := [.lit (.bool true)], args := [d1, d2] }
  | _ => none }
def objectsCheckRow : OpenClaim := { program := "ytlhlgfehbfankaadoor", sum := "802b5b9b0cee0e13b8bb00b1c2d43bf4c9f2a0f675cd4e5b0c1f9e55202ad8fb", func := "chatelaine/chatelainelaw04.ObjectsCheck", spec := "objectsCheck", named := ["chatelaine/keys.kinds"], apart := false, laid := [("chatelaine/keys.kinds", laid_chatelaine_keys_kinds)] }
def ObjectsCheckSaid : Prop := objectsCheckRow.holds Tryd.pinned (OpenSpec.ofChange objectsCheckSpec)

/-- ITS FALSE NEIGHBOUR: 'it returns false'. Refute it at one input. -/
def objectsCheckWrong : ChangeSpec := { name := "objectsCheck", fn := fun _ => fun
  | [d1, d2] => { results := [.lit (.bool false)], args := [d1, d2] }
  | _ => none }
def ObjectsCheckWrongFalsely : Prop := objectsCheckRow.holds Tryd.pinned (OpenSpec.ofChange objectsCheckWrong)

/-- 'chatelainelaw04.ObjectsOf': WHATEVER THE INPUT: true; the input reads as it did. -/
def objectsOfSpec : ChangeSpec := { name := "objectsOf", fn := fun _ => fun
  | [d] => { results := [.lit (.bool true)], args := [d] }
  | _ => none }
def objectsOfRow : OpenClaim := { program := "ytlhlgfehbfankaadoor", sum := "802b5b9b0cee0e13b8bb00b1c2d43bf4c9f2a0f675cd4e5b0c1f9e55202ad8fb", func := "chatelaine/chatelainelaw04.ObjectsOf", spec := "objectsOf", unfollowed := true, recurses := true, named := ["chatelaine/keys.kinds"], apart := false, laid := [("chatelaine/keys.kinds", laid_chatelaine_keys_kinds)] }
def ObjectsOfSaid : Prop := objectsOfRow.holds Tryd.pinned (OpenSpec.ofChange objectsOfSpec)

/-- ITS FALSE NEIGHBOUR: 'it returns false'. Refute it at one input. -/
def objectsOfWrong : ChangeSpec := { name := "objectsOf", fn := fun _ => fun
  | [d] => { results := [.lit (.bool false)], args := [d] }
  | _ => none }
def ObjectsOfWrongFalsely : Prop := objectsOfRow.holds Tryd.pinned (OpenSpec.ofChange objectsOfWrong)

/-- 'chatelainelaw04.ObjectsPlay': WHATEVER THE INPUT: true; the input reads as it did. -/
def objectsPlaySpec : ChangeSpec := { name := "objectsPlay", fn := fun _ => fun
  | [d1, d2] => { results := [.lit (.bool true)], args := [d1, d2] }
  | _ => none }
def objectsPlayRow : OpenClaim := { program := "ytlhlgfehbfankaadoor", sum := "802b5b9b0cee0e13b8bb00b1c2d43bf4c9f2a0f675cd4e5b0c1f9e55202ad8fb", func := "chatelaine/chatelainelaw04.ObjectsPlay", spec := "objectsPlay", unfollowed := true, recurses := true, named := ["chatelaine/keys.kinds"], apart := false, laid := [("chatelaine/keys.kinds", laid_chatelaine_keys_kinds)] }
def ObjectsPlaySaid : Prop := objectsPlayRow.holds Tryd.pinned (OpenSpec.ofChange objectsPlaySpec)

/-- ITS FALSE NEIGHBOUR: 'it returns false'. Refute it at one input. -/
def objectsPlayWrong : ChangeSpec := { name := "objectsPlay", fn := fun _ => fun
  | [d1, d2] => { results := [.lit (.bool false)], args := [d1, d2] }
  | _ => none }
def ObjectsPlayWrongFalsely : Prop := objectsPlayRow.holds Tryd.pinned (OpenSpec.ofChange objectsPlayWrong)

/-- 'chatelainelaw04.ObjectsKeys': WHATEVER THE INPUT: true; the input reads as it did. -/
def objectsKeysSpec : ChangeSpec := { name := "objectsKeys", fn := fun _ => fun
  | [d1, d2] => { results := [.lit (.bool true)], args := [d1, d2] }
  | _ => none }
def objectsKeysRow : OpenClaim := { program := "ytlhlgfehbfankaadoor", sum := "802b5b9b0cee0e13b8bb00b1c2d43bf4c9f2a0f675cd4e5b0c1f9e55202ad8fb", func := "chatelaine/chatelainelaw04.ObjectsKeys", spec := "objectsKeys", named := ["chatelaine/keys.kinds"], apart := false, laid := [("chatelaine/keys.kinds", laid_chatelaine_keys_kinds)] }
def ObjectsKeysSaid : Prop := objectsKeysRow.holds Tryd.pinned (OpenSpec.ofChange objectsKeysSpec)

/-- ITS FALSE NEIGHBOUR: 'it returns false'. Refute it at one input. -/
def objectsKeysWrong : ChangeSpec := { name := "objectsKeys", fn := fun _ => fun
  | [d1, d2] => { results := [.lit (.bool false)], args := [d1, d2] }
  | _ => none }
def ObjectsKeysWrongFalsely : Prop := objectsKeysRow.holds Tryd.pinned (OpenSpec.ofChange objectsKeysWrong)

/-- 'chatelainelaw04.ObjectsUnlike': WHATEVER THE INPUT: true; the input reads as it did. -/
def objectsUnlikeSpec : ChangeSpec := { name := "objectsUnlike", fn := fun _ => fun
  | [d1, d2, d3] => { results := [.lit (.bool true)], args := [d1, d2, d3] }
  | _ => none }
def objectsUnlikeRow : OpenClaim := { program := "ytlhlgfehbfankaadoor", sum := "802b5b9b0cee0e13b8bb00b1c2d43bf4c9f2a0f675cd4e5b0c1f9e55202ad8fb", func := "chatelaine/chatelainelaw04.ObjectsUnlike", spec := "objectsUnlike", unfollowed := true, recurses := true, named := ["chatelaine/keys.kinds"], apart := false, laid := [("chatelaine/keys.kinds", laid_chatelaine_keys_kinds)] }
def ObjectsUnlikeSaid : Prop := objectsUnlikeRow.holds Tryd.pinned (OpenSpec.ofChange objectsUnlikeSpec)

/-- ITS FALSE NEIGHBOUR: 'it returns false'. Refute it at one input. -/
def objectsUnlikeWrong : ChangeSpec := { name := "objectsUnlike", fn := fun _ => fun
  | [d1, d2, d3] => { results := [.lit (.bool false)], args := [d1, d2, d3] }
  | _ => none }
def ObjectsUnlikeWrongFalsely : Prop := objectsUnlikeRow.holds Tryd.pinned (OpenSpec.ofChange objectsUnlikeWrong)

/-- 'chatelainelaw04.ObjectsAll': WHATEVER THE INPUT: true; the input reads as it did. -/
def objectsAllSpec : ChangeSpec := { name := "objectsAll", fn := fun _ => fun
  | [d1, d2] => { results := [.lit (.bool true)], args := [d1, d2] }
  | _ => none }
def objectsAllRow : OpenClaim := { program := "ytlhlgfehbfankaadoor", sum := "802b5b9b0cee0e13b8bb00b1c2d43bf4c9f2a0f675cd4e5b0c1f9e55202ad8fb", func := "chatelaine/chatelainelaw04.ObjectsAll", spec := "objectsAll", unfollowed := true, recurses := true, named := ["chatelaine/keys.kinds"], apart := false, laid := [("chatelaine/keys.kinds", laid_chatelaine_keys_kinds)] }
def ObjectsAllSaid : Prop := objectsAllRow.holds Tryd.pinned (OpenSpec.ofChange objectsAllSpec)

/-- ITS FALSE NEIGHBOUR: 'it returns false'. Refute it at one input. -/
def objectsAllWrong : ChangeSpec := { name := "objectsAll", fn := fun _ => fun
  | [d1, d2] => { results := [.lit (.bool false)], args := [d1, d2] }
  | _ => none }
def ObjectsAllWrongFalsely : Prop := objectsAllRow.holds Tryd.pinned (OpenSpec.ofChange objectsAllWrong)

/-- 'chatelainelaw04.ObjectsNil': WHATEVER THE INPUT: true; the input reads as it did. -/
def objectsNilSpec : ChangeSpec := { name := "objectsNil", fn := fun _ => fun
  | [d1, d2] => { results := [.lit (.bool true)], args := [d1, d2] }
  | _ => none }
def objectsNilRow : OpenClaim := { program := "ytlhlgfehbfankaadoor", sum := "802b5b9b0cee0e13b8bb00b1c2d43bf4c9f2a0f675cd4e5b0c1f9e55202ad8fb", func := "chatelaine/chatelainelaw04.ObjectsNil", spec := "objectsNil", unfollowed := true, recurses := true, named := ["chatelaine/keys.kinds"], apart := false, laid := [("chatelaine/keys.kinds", laid_chatelaine_keys_kinds)] }
def ObjectsNilSaid : Prop := objectsNilRow.holds Tryd.pinned (OpenSpec.ofChange objectsNilSpec)

/-- ITS FALSE NEIGHBOUR: 'it returns false'. Refute it at one input. -/
def objectsNilWrong : ChangeSpec := { name := "objectsNil", fn := fun _ => fun
  | [d1, d2] => { results := [.lit (.bool false)], args := [d1, d2] }
  | _ => none }
def ObjectsNilWrongFalsely : Prop := objectsNilRow.holds Tryd.pinned (OpenSpec.ofChange objectsNilWrong)

/-- 'chatelainelaw04.ObjectsNear': WHATEVER THE INPUT: true; the input reads as it did. -/
def objectsNearSpec : ChangeSpec := { name := "objectsNear", fn := fun _ => fun
  | [d1, d2] => { results := [.lit (.bool true)], args := [d1, d2] }
  | _ => none }
def objectsNearRow : OpenClaim := { program := "ytlhlgfehbfankaadoor", sum := "802b5b9b0cee0e13b8bb00b1c2d43bf4c9f2a0f675cd4e5b0c1f9e55202ad8fb", func := "chatelaine/chatelainelaw04.ObjectsNear", spec := "objectsNear", named := ["chatelaine/keys.kinds"], apart := false, laid := [("chatelaine/keys.kinds", laid_chatelaine_keys_kinds)] }
def ObjectsNearSaid : Prop := objectsNearRow.holds Tryd.pinned (OpenSpec.ofChange objectsNearSpec)

/-- ITS FALSE NEIGHBOUR: 'it returns false'. Refute it at one input. -/
def objectsNearWrong : ChangeSpec := { name := "objectsNear", fn := fun _ => fun
  | [d1, d2] => { results := [.lit (.bool false)], args := [d1, d2] }
  | _ => none }
def ObjectsNearWrongFalsely : Prop := objectsNearRow.holds Tryd.pinned (OpenSpec.ofChange objectsNearWrong)

/- THE SECOND FORM. 'bulk': how many values and letters a reading holds, each counted each time it is reached (what is shared counts as often as it is met; a slice's spare places count too). A statement '..UptoSaid' is the law's where the arguments, and the package variables that the reading takes, are together of bulk at most 1048576: NARROWER than '..Said'. Prove '..Said' where nothing that the law and all that it calls make is longer than what came in: it says more and counts as full. Else prove '..UptoSaid'. A law counts once. -/
mutual
def uptoBulk {H : Type} : DataW H → Nat
  | .lit (.string bytes) => bytes.length + 1
  | .lit _ => 1
  | .nil => 1
  | .ptr d => uptoBulk d + 1
  | .slice elems spare => uptoBulkAll elems + uptoBulkAll spare + 1
  | .agg parts => uptoBulkAll parts + 1
  | .iface _ d => uptoBulk d + 1
  | .map entries => uptoBulkEntries entries + 1
  | .held _ => 1
def uptoBulkAll {H : Type} : List (DataW H) → Nat
  | [] => 0
  | d :: r => uptoBulk d + uptoBulkAll r
def uptoBulkEntries {H : Type} : List (Lit × DataW H) → Nat
  | [] => 0
  | x :: r => uptoBulkEntry x + uptoBulkEntries r
def uptoBulkEntry {H : Type} : Lit × DataW H → Nat
  | (.string bytes, d) => bytes.length + uptoBulk d + 1
  | (_, d) => uptoBulk d + 1
 end
def uptoSmall : (H : Type) → List (DataW H) → Bool := fun _ ds => decide (uptoBulkAll ds ≤ 1048576)
def OpenSpec.upto (s : _root_.Go.ChangeSpec) : _root_.Go.OpenSpec := { _root_.Go.OpenSpec.ofChange s with cond := some uptoSmall }

/-- 'chatelainelaw04.ObjectsCheck', WHERE WHAT IT READS IS OF BULK AT MOST 1048576: true; the input reads as it did. -/
def objectsCheckUptoRow : OpenClaim := { program := "ytlhlgfehbfankaadoor", sum := "802b5b9b0cee0e13b8bb00b1c2d43bf4c9f2a0f675cd4e5b0c1f9e55202ad8fb", func := "chatelaine/chatelainelaw04.ObjectsCheck", spec := "objectsCheck", named := ["chatelaine/keys.kinds"], apart := false, laid := [("chatelaine/keys.kinds", laid_chatelaine_keys_kinds)], narrowed := true }
def ObjectsCheckUptoSaid : Prop := objectsCheckUptoRow.holds Tryd.pinned (OpenSpec.upto objectsCheckSpec)

/-- 'chatelainelaw04.ObjectsOf', WHERE WHAT IT READS IS OF BULK AT MOST 1048576: true; the input reads as it did. -/
def objectsOfUptoRow : OpenClaim := { program := "ytlhlgfehbfankaadoor", sum := "802b5b9b0cee0e13b8bb00b1c2d43bf4c9f2a0f675cd4e5b0c1f9e55202ad8fb", func := "chatelaine/chatelainelaw04.ObjectsOf", spec := "objectsOf", unfollowed := true, recurses := true, named := ["chatelaine/keys.kinds"], apart := false, laid := [("chatelaine/keys.kinds", laid_chatelaine_keys_kinds)], narrowed := true }
def ObjectsOfUptoSaid : Prop := objectsOfUptoRow.holds Tryd.pinned (OpenSpec.upto objectsOfSpec)

/-- 'chatelainelaw04.ObjectsPlay', WHERE WHAT IT READS IS OF BULK AT MOST 1048576: true; the input reads as it did. -/
def objectsPlayUptoRow : OpenClaim := { program := "ytlhlgfehbfankaadoor", sum := "802b5b9b0cee0e13b8bb00b1c2d43bf4c9f2a0f675cd4e5b0c1f9e55202ad8fb", func := "chatelaine/chatelainelaw04.ObjectsPlay", spec := "objectsPlay", unfollowed := true, recurses := true, named := ["chatelaine/keys.kinds"], apart := false, laid := [("chatelaine/keys.kinds", laid_chatelaine_keys_kinds)], narrowed := true }
def ObjectsPlayUptoSaid : Prop := objectsPlayUptoRow.holds Tryd.pinned (OpenSpec.upto objectsPlaySpec)

/-- 'chatelainelaw04.ObjectsKeys', WHERE WHAT IT READS IS OF BULK AT MOST 1048576: true; the input reads as it did. -/
def objectsKeysUptoRow : OpenClaim := { program := "ytlhlgfehbfankaadoor", sum := "802b5b9b0cee0e13b8bb00b1c2d43bf4c9f2a0f675cd4e5b0c1f9e55202ad8fb", func := "chatelaine/chatelainelaw04.ObjectsKeys", spec := "objectsKeys", named := ["chatelaine/keys.kinds"], apart := false, laid := [("chatelaine/keys.kinds", laid_chatelaine_keys_kinds)], narrowed := true }
def ObjectsKeysUptoSaid : Prop := objectsKeysUptoRow.holds Tryd.pinned (OpenSpec.upto objectsKeysSpec)

/-- 'chatelainelaw04.ObjectsUnlike', WHERE WHAT IT READS IS OF BULK AT MOST 1048576: true; the input reads as it did. -/
def objectsUnlikeUptoRow : OpenClaim := { program := "ytlhlgfehbfankaadoor", sum := "802b5b9b0cee0e13b8bb00b1c2d43bf4c9f2a0f675cd4e5b0c1f9e55202ad8fb", func := "chatelaine/chatelainelaw04.ObjectsUnlike", spec := "objectsUnlike", unfollowed := true, recurses := true, named := ["chatelaine/keys.kinds"], apart := false, laid := [("chatelaine/keys.kinds", laid_chatelaine_keys_kinds)], narrowed := true }
def ObjectsUnlikeUptoSaid : Prop := objectsUnlikeUptoRow.holds Tryd.pinned (OpenSpec.upto objectsUnlikeSpec)

/-- 'chatelainelaw04.ObjectsAll', WHERE WHAT IT READS IS OF BULK AT MOST 1048576: true; the input reads as it did. -/
def objectsAllUptoRow : OpenClaim := { program := "ytlhlgfehbfankaadoor", sum := "802b5b9b0cee0e13b8bb00b1c2d43bf4c9f2a0f675cd4e5b0c1f9e55202ad8fb", func := "chatelaine/chatelainelaw04.ObjectsAll", spec := "objectsAll", unfollowed := true, recurses := true, named := ["chatelaine/keys.kinds"], apart := false, laid := [("chatelaine/keys.kinds", laid_chatelaine_keys_kinds)], narrowed := true }
def ObjectsAllUptoSaid : Prop := objectsAllUptoRow.holds Tryd.pinned (OpenSpec.upto objectsAllSpec)

/-- 'chatelainelaw04.ObjectsNil', WHERE WHAT IT READS IS OF BULK AT MOST 1048576: true; the input reads as it did. -/
def objectsNilUptoRow : OpenClaim := { program := "ytlhlgfehbfankaadoor", sum := "802b5b9b0cee0e13b8bb00b1c2d43bf4c9f2a0f675cd4e5b0c1f9e55202ad8fb", func := "chatelaine/chatelainelaw04.ObjectsNil", spec := "objectsNil", unfollowed := true, recurses := true, named := ["chatelaine/keys.kinds"], apart := false, laid := [("chatelaine/keys.kinds", laid_chatelaine_keys_kinds)], narrowed := true }
def ObjectsNilUptoSaid : Prop := objectsNilUptoRow.holds Tryd.pinned (OpenSpec.upto objectsNilSpec)

/-- 'chatelainelaw04.ObjectsNear', WHERE WHAT IT READS IS OF BULK AT MOST 1048576: true; the input reads as it did. -/
def objectsNearUptoRow : OpenClaim := { program := "ytlhlgfehbfankaadoor", sum := "802b5b9b0cee0e13b8bb00b1c2d43bf4c9f2a0f675cd4e5b0c1f9e55202ad8fb", func := "chatelaine/chatelainelaw04.ObjectsNear", spec := "objectsNear", named := ["chatelaine/keys.kinds"], apart := false, laid := [("chatelaine/keys.kinds", laid_chatelaine_keys_kinds)], narrowed := true }
def ObjectsNearUptoSaid : Prop := objectsNearUptoRow.holds Tryd.pinned (OpenSpec.upto objectsNearSpec)

end Rows
end Go.Proofs.YtlhlgfehbfankaaDoor
