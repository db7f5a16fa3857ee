/-
  NARROWER THAN 'FOR EVERY INPUT', by the rows' own cells (each row's printed sentence says how): KeysCheck: laid · KeysMany: laid · KeysCounts: laid · KeysWeak: laid · KeysWithin: laid · KeysOrders: laid · KeysText: laid · KeysOrder: laid · KeysRights: laid.
  DERIVED. THE GIVEN ROWS OF THIS SEAT. 9 by the template 'for every input the law returns true; each argument reads behind the call as it read before'; 0 by the template 'total and deterministic' (their statements: YtmpibbgciajnkaaDoorTotals.lean).
  GIVEN WITH THE SEED: the statements are not yours to turn. If you find one false, say at which input.
  Laid BY PROGRAM, IN A SANDBOX (cutbox-rows.mjs): the forced cells as the released guide's own fill.sh prints them over the translation 7dcb33f35a97f34b… (all of the seat's roots in one cut). By AI agents, Wed Nov 11 2026. No macro, syntax, notation, axiom, sorry.
-/
import Derived.Test.YtmpibbgciajnkaaDoorChecked
import GoSem.Claim
import GoSem.ClaimJoined
import GoSem.ClaimMapViews
import Derived.JoinedTies
import Derived.KernelRfl
namespace Go.Proofs.YtmpibbgciajnkaaDoor
/- THE CELL 'sum', in the pinned program and in every row, IS THE sha256 OF THE DUMP (.gsa) THAT YtmpibbgciajnkaaDoorProg.lean LOADS. Nothing in Lean hashes anything: it is a label: what it is worth is what the hold of that sum in a sandbox is worth. -/
noncomputable def Tryd.pinned : Pinned := { name := "ytmpibbgciajnkaadoor", sum := "7dcb33f35a97f34b322626e96cb7a93cd26c02864b16db0b561f3af5b9c5cae9", checked := Tryd.checked }
namespace Rows
def none {H : Type} : Left H := { results := [], args := [] }

/- WHAT THE LISTED PACKAGE-LEVEL VARIABLES READ AS WHEN THE CALL BEGINS. Each datum BY PROGRAM (the guide's laid-datum.mjs) off the statement by which the dump's own 'gosem.cut.vars' lays the variable. In a bare row this is a premise. The card (YtmpibbgciajnkaaDoorCards.lean) ties it to the program's text. -/
def laid_chatelaine_keys_kinds {H : Type} : DataW H := .agg [.agg [.lit (.string [118, 111, 105, 100]), .lit (.int .i64 0), .lit (.int .i64 0), .lit (.int .i64 0), .lit (.int .i64 0), .lit (.int .i64 0), .lit (.bool false)], .agg [.lit (.string [110, 117, 109, 98, 101, 114]), .lit (.int .i64 0), .lit (.int .i64 0), .lit (.int .i64 0), .lit (.int .i64 0), .lit (.int .i64 0), .lit (.bool true)], .agg [.lit (.string [110, 111, 100, 101]), .lit (.int .i64 1), .lit (.int .i64 63), .lit (.int .i64 4294967295), .lit (.int .i64 0), .lit (.int .i64 7), .lit (.bool false)], .agg [.lit (.string [112, 97, 103, 101]), .lit (.int .i64 2), .lit (.int .i64 63), .lit (.int .i64 4294967295), .lit (.int .i64 0), .lit (.int .i64 1), .lit (.bool false)], .agg [.lit (.string [98, 97, 110, 107]), .lit (.int .i64 1), .lit (.int .i64 63), .lit (.int .i64 4294967295), .lit (.int .i64 0), .lit (.int .i64 0), .lit (.bool false)], .agg [.lit (.string [112, 114, 111, 99]), .lit (.int .i64 1), .lit (.int .i64 63), .lit (.int .i64 4294967295), .lit (.int .i64 0), .lit (.int .i64 0), .lit (.bool false)], .agg [.lit (.string [115, 116, 97, 114, 116]), .lit (.int .i64 1), .lit (.int .i64 63), .lit (.int .i64 4294967295), .lit (.int .i64 0), .lit (.int .i64 0), .lit (.bool true)], .agg [.lit (.string [114, 101, 115, 117, 109, 101]), .lit (.int .i64 1), .lit (.int .i64 63), .lit (.int .i64 4294967295), .lit (.int .i64 4294967295), .lit (.int .i64 0), .lit (.bool false)], .agg [.lit (.string [100, 105, 115, 99, 114, 105, 109]), .lit (.int .i64 0), .lit (.int .i64 0), .lit (.int .i64 0), .lit (.int .i64 0), .lit (.int .i64 0), .lit (.bool false)], .agg [.lit (.string [99, 108, 111, 99, 107]), .lit (.int .i64 0), .lit (.int .i64 0), .lit (.int .i64 0), .lit (.int .i64 0), .lit (.int .i64 0), .lit (.bool false)], .agg [.lit (.string [99, 104, 101, 99, 107]), .lit (.int .i64 0), .lit (.int .i64 0), .lit (.int .i64 0), .lit (.int .i64 0), .lit (.int .i64 0), .lit (.bool false)]]
def laid_math_bits_deBruijn32tab {H : Type} : DataW H := .agg [.lit (.int .u8 0), .lit (.int .u8 1), .lit (.int .u8 28), .lit (.int .u8 2), .lit (.int .u8 29), .lit (.int .u8 14), .lit (.int .u8 24), .lit (.int .u8 3), .lit (.int .u8 30), .lit (.int .u8 22), .lit (.int .u8 20), .lit (.int .u8 15), .lit (.int .u8 25), .lit (.int .u8 17), .lit (.int .u8 4), .lit (.int .u8 8), .lit (.int .u8 31), .lit (.int .u8 27), .lit (.int .u8 13), .lit (.int .u8 23), .lit (.int .u8 21), .lit (.int .u8 19), .lit (.int .u8 16), .lit (.int .u8 7), .lit (.int .u8 26), .lit (.int .u8 12), .lit (.int .u8 18), .lit (.int .u8 6), .lit (.int .u8 11), .lit (.int .u8 5), .lit (.int .u8 10), .lit (.int .u8 9)]
def laid_math_bits_deBruijn64tab {H : Type} : DataW H := .agg [.lit (.int .u8 0), .lit (.int .u8 1), .lit (.int .u8 56), .lit (.int .u8 2), .lit (.int .u8 57), .lit (.int .u8 49), .lit (.int .u8 28), .lit (.int .u8 3), .lit (.int .u8 61), .lit (.int .u8 58), .lit (.int .u8 42), .lit (.int .u8 50), .lit (.int .u8 38), .lit (.int .u8 29), .lit (.int .u8 17), .lit (.int .u8 4), .lit (.int .u8 62), .lit (.int .u8 47), .lit (.int .u8 59), .lit (.int .u8 36), .lit (.int .u8 45), .lit (.int .u8 43), .lit (.int .u8 51), .lit (.int .u8 22), .lit (.int .u8 53), .lit (.int .u8 39), .lit (.int .u8 33), .lit (.int .u8 30), .lit (.int .u8 24), .lit (.int .u8 18), .lit (.int .u8 12), .lit (.int .u8 5), .lit (.int .u8 63), .lit (.int .u8 55), .lit (.int .u8 48), .lit (.int .u8 27), .lit (.int .u8 60), .lit (.int .u8 41), .lit (.int .u8 37), .lit (.int .u8 16), .lit (.int .u8 46), .lit (.int .u8 35), .lit (.int .u8 44), .lit (.int .u8 21), .lit (.int .u8 52), .lit (.int .u8 32), .lit (.int .u8 23), .lit (.int .u8 11), .lit (.int .u8 54), .lit (.int .u8 26), .lit (.int .u8 40), .lit (.int .u8 15), .lit (.int .u8 34), .lit (.int .u8 20), .lit (.int .u8 31), .lit (.int .u8 10), .lit (.int .u8 25), .lit (.int .u8 14), .lit (.int .u8 19), .lit (.int .u8 9), .lit (.int .u8 13), .lit (.int .u8 8), .lit (.int .u8 7), .lit (.int .u8 6)]
def laid_internal_strconv_uint64pow10 {H : Type} : DataW H := .agg [.lit (.int .u64 1), .lit (.int .u64 10), .lit (.int .u64 100), .lit (.int .u64 1000), .lit (.int .u64 10000), .lit (.int .u64 100000), .lit (.int .u64 1000000), .lit (.int .u64 10000000), .lit (.int .u64 100000000), .lit (.int .u64 1000000000), .lit (.int .u64 10000000000), .lit (.int .u64 100000000000), .lit (.int .u64 1000000000000), .lit (.int .u64 10000000000000), .lit (.int .u64 100000000000000), .lit (.int .u64 1000000000000000), .lit (.int .u64 10000000000000000), .lit (.int .u64 100000000000000000), .lit (.int .u64 1000000000000000000), .lit (.int .u64 10000000000000000000)]

/-- 'chatelainelaw03.KeysCheck': WHATEVER THE INPUT: true; the input reads as it did. -/
def keysCheckSpec : ChangeSpec := { name := "keysCheck", fn := fun _ => fun
  | [d] => { results := [.lit (.bool true)], args := [d] }
  | _ => none }
def keysCheckRow : OpenClaim := { program := "ytmpibbgciajnkaadoor", sum := "7dcb33f35a97f34b322626e96cb7a93cd26c02864b16db0b561f3af5b9c5cae9", func := "chatelaine/chatelainelaw03.KeysCheck", spec := "keysCheck", unfollowed := true, recurses := true, named := ["chatelaine/keys.kinds"], apart := false, laid := [("chatelaine/keys.kinds", laid_chatelaine_keys_kinds)] }
def KeysCheckSaid : Prop := keysCheckRow.holds Tryd.pinned (OpenSpec.ofChange keysCheckSpec)

/-- ITS FALSE NEIGHBOUR: 'it returns false'. Refute it at one input. -/
def keysCheckWrong : ChangeSpec := { name := "keysCheck", fn := fun _ => fun
  | [d] => { results := [.lit (.bool false)], args := [d] }
  | _ => none }
def KeysCheckWrongFalsely : Prop := keysCheckRow.holds Tryd.pinned (OpenSpec.ofChange keysCheckWrong)

/-- 'chatelainelaw03.KeysMany': WHATEVER THE INPUT: true; the input reads as it did. -/
def keysManySpec : ChangeSpec := { name := "keysMany", fn := fun _ => fun
  | [d] => { results := [.lit (.bool true)], args := [d] }
  | _ => none }
def keysManyRow : OpenClaim := { program := "ytmpibbgciajnkaadoor", sum := "7dcb33f35a97f34b322626e96cb7a93cd26c02864b16db0b561f3af5b9c5cae9", func := "chatelaine/chatelainelaw03.KeysMany", spec := "keysMany", unfollowed := true, recurses := true, named := ["chatelaine/keys.kinds"], apart := false, laid := [("chatelaine/keys.kinds", laid_chatelaine_keys_kinds)] }
def KeysManySaid : Prop := keysManyRow.holds Tryd.pinned (OpenSpec.ofChange keysManySpec)

/-- ITS FALSE NEIGHBOUR: 'it returns false'. Refute it at one input. -/
def keysManyWrong : ChangeSpec := { name := "keysMany", fn := fun _ => fun
  | [d] => { results := [.lit (.bool false)], args := [d] }
  | _ => none }
def KeysManyWrongFalsely : Prop := keysManyRow.holds Tryd.pinned (OpenSpec.ofChange keysManyWrong)

/-- 'chatelainelaw03.KeysCounts': WHATEVER THE INPUT: true; the input reads as it did. -/
def keysCountsSpec : ChangeSpec := { name := "keysCounts", fn := fun _ => fun
  | [d1, d2] => { results := [.lit (.bool true)], args := [d1, d2] }
  | _ => none }
def keysCountsRow : OpenClaim := { program := "ytmpibbgciajnkaadoor", sum := "7dcb33f35a97f34b322626e96cb7a93cd26c02864b16db0b561f3af5b9c5cae9", func := "chatelaine/chatelainelaw03.KeysCounts", spec := "keysCounts", unfollowed := true, recurses := true, named := ["chatelaine/keys.kinds"], apart := false, laid := [("chatelaine/keys.kinds", laid_chatelaine_keys_kinds)] }
def KeysCountsSaid : Prop := keysCountsRow.holds Tryd.pinned (OpenSpec.ofChange keysCountsSpec)

/-- ITS FALSE NEIGHBOUR: 'it returns false'. Refute it at one input. -/
def keysCountsWrong : ChangeSpec := { name := "keysCounts", fn := fun _ => fun
  | [d1, d2] => { results := [.lit (.bool false)], args := [d1, d2] }
  | _ => none }
def KeysCountsWrongFalsely : Prop := keysCountsRow.holds Tryd.pinned (OpenSpec.ofChange keysCountsWrong)

/-- 'chatelainelaw03.KeysWeak': WHATEVER THE INPUT: true; the input reads as it did. -/
def keysWeakSpec : ChangeSpec := { name := "keysWeak", fn := fun _ => fun
  | [d1, d2] => { results := [.lit (.bool true)], args := [d1, d2] }
  | _ => none }
def keysWeakRow : OpenClaim := { program := "ytmpibbgciajnkaadoor", sum := "7dcb33f35a97f34b322626e96cb7a93cd26c02864b16db0b561f3af5b9c5cae9", func := "chatelaine/chatelainelaw03.KeysWeak", spec := "keysWeak", unfollowed := true, recurses := true, named := ["chatelaine/keys.kinds"], apart := false, laid := [("chatelaine/keys.kinds", laid_chatelaine_keys_kinds)] }
def KeysWeakSaid : Prop := keysWeakRow.holds Tryd.pinned (OpenSpec.ofChange keysWeakSpec)

/-- ITS FALSE NEIGHBOUR: 'it returns false'. Refute it at one input. -/
def keysWeakWrong : ChangeSpec := { name := "keysWeak", fn := fun _ => fun
  | [d1, d2] => { results := [.lit (.bool false)], args := [d1, d2] }
  | _ => none }
def KeysWeakWrongFalsely : Prop := keysWeakRow.holds Tryd.pinned (OpenSpec.ofChange keysWeakWrong)

/-- 'chatelainelaw03.KeysWithin': WHATEVER THE INPUT: true; the input reads as it did. -/
def keysWithinSpec : ChangeSpec := { name := "keysWithin", fn := fun _ => fun
  | [d1, d2] => { results := [.lit (.bool true)], args := [d1, d2] }
  | _ => none }
def keysWithinRow : OpenClaim := { program := "ytmpibbgciajnkaadoor", sum := "7dcb33f35a97f34b322626e96cb7a93cd26c02864b16db0b561f3af5b9c5cae9", func := "chatelaine/chatelainelaw03.KeysWithin", spec := "keysWithin", unfollowed := true, recurses := true, named := ["chatelaine/keys.kinds"], apart := false, laid := [("chatelaine/keys.kinds", laid_chatelaine_keys_kinds)] }
def KeysWithinSaid : Prop := keysWithinRow.holds Tryd.pinned (OpenSpec.ofChange keysWithinSpec)

/-- ITS FALSE NEIGHBOUR: 'it returns false'. Refute it at one input. -/
def keysWithinWrong : ChangeSpec := { name := "keysWithin", fn := fun _ => fun
  | [d1, d2] => { results := [.lit (.bool false)], args := [d1, d2] }
  | _ => none }
def KeysWithinWrongFalsely : Prop := keysWithinRow.holds Tryd.pinned (OpenSpec.ofChange keysWithinWrong)

/-- 'chatelainelaw03.KeysOrders': WHATEVER THE INPUT: true; the input reads as it did. -/
def keysOrdersSpec : ChangeSpec := { name := "keysOrders", fn := fun _ => fun
  | [d1, d2, d3] => { results := [.lit (.bool true)], args := [d1, d2, d3] }
  | _ => none }
def keysOrdersRow : OpenClaim := { program := "ytmpibbgciajnkaadoor", sum := "7dcb33f35a97f34b322626e96cb7a93cd26c02864b16db0b561f3af5b9c5cae9", func := "chatelaine/chatelainelaw03.KeysOrders", spec := "keysOrders", unfollowed := true, recurses := true, named := ["chatelaine/keys.kinds"], apart := false, laid := [("chatelaine/keys.kinds", laid_chatelaine_keys_kinds)] }
def KeysOrdersSaid : Prop := keysOrdersRow.holds Tryd.pinned (OpenSpec.ofChange keysOrdersSpec)

/-- ITS FALSE NEIGHBOUR: 'it returns false'. Refute it at one input. -/
def keysOrdersWrong : ChangeSpec := { name := "keysOrders", fn := fun _ => fun
  | [d1, d2, d3] => { results := [.lit (.bool false)], args := [d1, d2, d3] }
  | _ => none }
def KeysOrdersWrongFalsely : Prop := keysOrdersRow.holds Tryd.pinned (OpenSpec.ofChange keysOrdersWrong)

/-- 'chatelainelaw03.KeysText': WHATEVER THE INPUT: true; the input reads as it did. -/
def keysTextSpec : ChangeSpec := { name := "keysText", fn := fun _ => fun
  | [d] => { results := [.lit (.bool true)], args := [d] }
  | _ => none }
def keysTextRow : OpenClaim := { program := "ytmpibbgciajnkaadoor", sum := "7dcb33f35a97f34b322626e96cb7a93cd26c02864b16db0b561f3af5b9c5cae9", func := "chatelaine/chatelainelaw03.KeysText", spec := "keysText", unfollowed := true, recurses := true, named := ["chatelaine/keys.kinds", "internal/strconv.uint64pow10", "math/bits.deBruijn32tab", "math/bits.deBruijn64tab"], apart := false, laid := [("math/bits.deBruijn32tab", laid_math_bits_deBruijn32tab), ("math/bits.deBruijn64tab", laid_math_bits_deBruijn64tab), ("internal/strconv.uint64pow10", laid_internal_strconv_uint64pow10), ("chatelaine/keys.kinds", laid_chatelaine_keys_kinds)] }
def KeysTextSaid : Prop := keysTextRow.holds Tryd.pinned (OpenSpec.ofChange keysTextSpec)

/-- ITS FALSE NEIGHBOUR: 'it returns false'. Refute it at one input. -/
def keysTextWrong : ChangeSpec := { name := "keysText", fn := fun _ => fun
  | [d] => { results := [.lit (.bool false)], args := [d] }
  | _ => none }
def KeysTextWrongFalsely : Prop := keysTextRow.holds Tryd.pinned (OpenSpec.ofChange keysTextWrong)

/-- 'chatelainelaw03.KeysOrder': WHATEVER THE INPUT: true; the input reads as it did. -/
def keysOrderSpec : ChangeSpec := { name := "keysOrder", fn := fun _ => fun
  | [d1, d2, d3] => { results := [.lit (.bool true)], args := [d1, d2, d3] }
  | _ => none }
def keysOrderRow : OpenClaim := { program := "ytmpibbgciajnkaadoor", sum := "7dcb33f35a97f34b322626e96cb7a93cd26c02864b16db0b561f3af5b9c5cae9", func := "chatelaine/chatelainelaw03.KeysOrder", spec := "keysOrder", unfollowed := true, recurses := true, named := ["chatelaine/keys.kinds"], apart := false, laid := [("chatelaine/keys.kinds", laid_chatelaine_keys_kinds)] }
def KeysOrderSaid : Prop := keysOrderRow.holds Tryd.pinned (OpenSpec.ofChange keysOrderSpec)

/-- ITS FALSE NEIGHBOUR: 'it returns false'. Refute it at one input. -/
def keysOrderWrong : ChangeSpec := { name := "keysOrder", fn := fun _ => fun
  | [d1, d2, d3] => { results := [.lit (.bool false)], args := [d1, d2, d3] }
  | _ => none }
def KeysOrderWrongFalsely : Prop := keysOrderRow.holds Tryd.pinned (OpenSpec.ofChange keysOrderWrong)

/-- 'chatelainelaw03.KeysRights': WHATEVER THE INPUT: true; the input reads as it did. -/
def keysRightsSpec : ChangeSpec := { name := "keysRights", fn := fun _ => fun
  | [d] => { results := [.lit (.bool true)], args := [d] }
  | _ => none }
def keysRightsRow : OpenClaim := { program := "ytmpibbgciajnkaadoor", sum := "7dcb33f35a97f34b322626e96cb7a93cd26c02864b16db0b561f3af5b9c5cae9", func := "chatelaine/chatelainelaw03.KeysRights", spec := "keysRights", unfollowed := true, recurses := true, named := ["chatelaine/keys.kinds"], apart := false, laid := [("chatelaine/keys.kinds", laid_chatelaine_keys_kinds)] }
def KeysRightsSaid : Prop := keysRightsRow.holds Tryd.pinned (OpenSpec.ofChange keysRightsSpec)

/-- ITS FALSE NEIGHBOUR: 'it returns false'. Refute it at one input. -/
def keysRightsWrong : ChangeSpec := { name := "keysRights", fn := fun _ => fun
  | [d] => { results := [.lit (.bool false)], args := [d] }
  | _ => none }
def KeysRightsWrongFalsely : Prop := keysRightsRow.holds Tryd.pinned (OpenSpec.ofChange keysRightsWrong)

/- THE SECOND FORM. 'bulk': how many values and letters a reading holds, each counted each time it is reached (what is shared counts as often as it is met; a slice's spare places count too). A statement '..UptoSaid' is the law's where the arguments, and the package variables that the reading takes, are together of bulk at most 1048576: NARROWER than '..Said'. Prove '..Said' where nothing that the law and all that it calls make is longer than what came in: it says more and counts as full. Else prove '..UptoSaid'. A law counts once. -/
mutual
def uptoBulk {H : Type} : DataW H → Nat
  | .lit (.string bytes) => bytes.length + 1
  | .lit _ => 1
  | .nil => 1
  | .ptr d => uptoBulk d + 1
  | .slice elems spare => uptoBulkAll elems + uptoBulkAll spare + 1
  | .agg parts => uptoBulkAll parts + 1
  | .iface _ d => uptoBulk d + 1
  | .map entries => uptoBulkEntries entries + 1
  | .held _ => 1
def uptoBulkAll {H : Type} : List (DataW H) → Nat
  | [] => 0
  | d :: r => uptoBulk d + uptoBulkAll r
def uptoBulkEntries {H : Type} : List (Lit × DataW H) → Nat
  | [] => 0
  | x :: r => uptoBulkEntry x + uptoBulkEntries r
def uptoBulkEntry {H : Type} : Lit × DataW H → Nat
  | (.string bytes, d) => bytes.length + uptoBulk d + 1
  | (_, d) => uptoBulk d + 1
 end
def uptoSmall : (H : Type) → List (DataW H) → Bool := fun _ ds => decide (uptoBulkAll ds ≤ 1048576)
def OpenSpec.upto (s : _root_.Go.ChangeSpec) : _root_.Go.OpenSpec := { _root_.Go.OpenSpec.ofChange s with cond := some uptoSmall }

/-- 'chatelainelaw03.KeysCheck', WHERE WHAT IT READS IS OF BULK AT MOST 1048576: true; the input reads as it did. -/
def keysCheckUptoRow : OpenClaim := { program := "ytmpibbgciajnkaadoor", sum := "7dcb33f35a97f34b322626e96cb7a93cd26c02864b16db0b561f3af5b9c5cae9", func := "chatelaine/chatelainelaw03.KeysCheck", spec := "keysCheck", unfollowed := true, recurses := true, named := ["chatelaine/keys.kinds"], apart := false, laid := [("chatelaine/keys.kinds", laid_chatelaine_keys_kinds)], narrowed := true }
def KeysCheckUptoSaid : Prop := keysCheckUptoRow.holds Tryd.pinned (OpenSpec.upto keysCheckSpec)

/-- 'chatelainelaw03.KeysMany', WHERE WHAT IT READS IS OF BULK AT MOST 1048576: true; the input reads as it did. -/
def keysManyUptoRow : OpenClaim := { program := "ytmpibbgciajnkaadoor", sum := "7dcb33f35a97f34b322626e96cb7a93cd26c02864b16db0b561f3af5b9c5cae9", func := "chatelaine/chatelainelaw03.KeysMany", spec := "keysMany", unfollowed := true, recurses := true, named := ["chatelaine/keys.kinds"], apart := false, laid := [("chatelaine/keys.kinds", laid_chatelaine_keys_kinds)], narrowed := true }
def KeysManyUptoSaid : Prop := keysManyUptoRow.holds Tryd.pinned (OpenSpec.upto keysManySpec)

/-- 'chatelainelaw03.KeysCounts', WHERE WHAT IT READS IS OF BULK AT MOST 1048576: true; the input reads as it did. -/
def keysCountsUptoRow : OpenClaim := { program := "ytmpibbgciajnkaadoor", sum := "7dcb33f35a97f34b322626e96cb7a93cd26c02864b16db0b561f3af5b9c5cae9", func := "chatelaine/chatelainelaw03.KeysCounts", spec := "keysCounts", unfollowed := true, recurses := true, named := ["chatelaine/keys.kinds"], apart := false, laid := [("chatelaine/keys.kinds", laid_chatelaine_keys_kinds)], narrowed := true }
def KeysCountsUptoSaid : Prop := keysCountsUptoRow.holds Tryd.pinned (OpenSpec.upto keysCountsSpec)

/-- 'chatelainelaw03.KeysWeak', WHERE WHAT IT READS IS OF BULK AT MOST 1048576: true; the input reads as it did. -/
def keysWeakUptoRow : OpenClaim := { program := "ytmpibbgciajnkaadoor", sum := "7dcb33f35a97f34b322626e96cb7a93cd26c02864b16db0b561f3af5b9c5cae9", func := "chatelaine/chatelainelaw03.KeysWeak", spec := "keysWeak", unfollowed := true, recurses := true, named := ["chatelaine/keys.kinds"], apart := false, laid := [("chatelaine/keys.kinds", laid_chatelaine_keys_kinds)], narrowed := true }
def KeysWeakUptoSaid : Prop := keysWeakUptoRow.holds Tryd.pinned (OpenSpec.upto keysWeakSpec)

/-- 'chatelainelaw03.KeysWithin', WHERE WHAT IT READS IS OF BULK AT MOST 1048576: true; the input reads as it did. -/
def keysWithinUptoRow : OpenClaim := { program := "ytmpibbgciajnkaadoor", sum := "7dcb33f35a97f34b322626e96cb7a93cd26c02864b16db0b561f3af5b9c5cae9", func := "chatelaine/chatelainelaw03.KeysWithin", spec := "keysWithin", unfollowed := true, recurses := true, named := ["chatelaine/keys.kinds"], apart := false, laid := [("chatelaine/keys.kinds", laid_chatelaine_keys_kinds)], narrowed := true }
def KeysWithinUptoSaid : Prop := keysWithinUptoRow.holds Tryd.pinned (OpenSpec.upto keysWithinSpec)

/-- 'chatelainelaw03.KeysOrders', WHERE WHAT IT READS IS OF BULK AT MOST 1048576: true; the input reads as it did. -/
def keysOrdersUptoRow : OpenClaim := { program := "ytmpibbgciajnkaadoor", sum := "7dcb33f35a97f34b322626e96cb7a93cd26c02864b16db0b561f3af5b9c5cae9", func := "chatelaine/chatelainelaw03.KeysOrders", spec := "keysOrders", unfollowed := true, recurses := true, named := ["chatelaine/keys.kinds"], apart := false, laid := [("chatelaine/keys.kinds", laid_chatelaine_keys_kinds)], narrowed := true }
def KeysOrdersUptoSaid : Prop := keysOrdersUptoRow.holds Tryd.pinned (OpenSpec.upto keysOrdersSpec)

/-- 'chatelainelaw03.KeysText', WHERE WHAT IT READS IS OF BULK AT MOST 1048576: true; the input reads as it did. -/
def keysTextUptoRow : OpenClaim := { program := "ytmpibbgciajnkaadoor", sum := "7dcb33f35a97f34b322626e96cb7a93cd26c02864b16db0b561f3af5b9c5cae9", func := "chatelaine/chatelainelaw03.KeysText", spec := "keysText", unfollowed := true, recurses := true, named := ["chatelaine/keys.kinds", "internal/strconv.uint64pow10", "math/bits.deBruijn32tab", "math/bits.deBruijn64tab"], apart := false, laid := [("math/bits.deBruijn32tab", laid_math_bits_deBruijn32tab), ("math/bits.deBruijn64tab", laid_math_bits_deBruijn64tab), ("internal/strconv.uint64pow10", laid_internal_strconv_uint64pow10), ("chatelaine/keys.kinds", laid_chatelaine_keys_kinds)], narrowed := true }
def KeysTextUptoSaid : Prop := keysTextUptoRow.holds Tryd.pinned (OpenSpec.upto keysTextSpec)

/-- 'chatelainelaw03.KeysOrder', WHERE WHAT IT READS IS OF BULK AT MOST 1048576: true; the input reads as it did. -/
def keysOrderUptoRow : OpenClaim := { program := "ytmpibbgciajnkaadoor", sum := "7dcb33f35a97f34b322626e96cb7a93cd26c02864b16db0b561f3af5b9c5cae9", func := "chatelaine/chatelainelaw03.KeysOrder", spec := "keysOrder", unfollowed := true, recurses := true, named := ["chatelaine/keys.kinds"], apart := false, laid := [("chatelaine/keys.kinds", laid_chatelaine_keys_kinds)], narrowed := true }
def KeysOrderUptoSaid : Prop := keysOrderUptoRow.holds Tryd.pinned (OpenSpec.upto keysOrderSpec)

/-- 'chatelainelaw03.KeysRights', WHERE WHAT IT READS IS OF BULK AT MOST 1048576: true; the input reads as it did. -/
def keysRightsUptoRow : OpenClaim := { program := "ytmpibbgciajnkaadoor", sum := "7dcb33f35a97f34b322626e96cb7a93cd26c02864b16db0b561f3af5b9c5cae9", func := "chatelaine/chatelainelaw03.KeysRights", spec := "keysRights", unfollowed := true, recurses := true, named := ["chatelaine/keys.kinds"], apart := false, laid := [("chatelaine/keys.kinds", laid_chatelaine_keys_kinds)], narrowed := true }
def KeysRightsUptoSaid : Prop := keysRightsUptoRow.holds Tryd.pinned (OpenSpec.upto keysRightsSpec)

end Rows
end Go.Proofs.YtmpibbgciajnkaaDoor
