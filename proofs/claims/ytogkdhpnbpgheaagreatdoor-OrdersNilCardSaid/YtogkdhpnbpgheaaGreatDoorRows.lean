/-
  NARROWER THAN 'FOR EVERY INPUT', by the rows' own cells (each row's printed sentence says how): OrdersPlay: laid · OrdersOne: laid · OrdersCodes: laid · OrdersWithin: laid · OrdersNil: laid · OrdersKinds: laid · OrdersSpaces: laid.
  DERIVED. THE GIVEN ROWS OF THIS SEAT. 7 by the template 'for every input the law returns true; each argument reads behind the call as it read before'; 0 by the template 'total and deterministic' (their statements: YtogkdhpnbpgheaaGreatDoorTotals.lean).
  GIVEN WITH THE SEED: the statements are not yours to turn. If you find one false, say at which input.
  Laid BY PROGRAM, IN A SANDBOX (cutbox-rows.mjs): the forced cells as the released guide's own fill.sh prints them over the translation 29384e195eefa0e5… (all of the seat's roots in one cut). By AI agents, Wed Nov 11 2026. No macro, syntax, notation, axiom, sorry.
-/
import Derived.Test.YtogkdhpnbpgheaaGreatDoorChecked
import GoSem.Claim
import GoSem.ClaimJoined
import GoSem.ClaimMapViews
import Derived.JoinedTies
import Derived.KernelRfl
namespace Go.Proofs.YtogkdhpnbpgheaaGreatDoor
/- THE CELL 'sum', in the pinned program and in every row, IS THE sha256 OF THE DUMP (.gsa) THAT YtogkdhpnbpgheaaGreatDoorProg.lean LOADS. Nothing in Lean hashes anything: it is a label: what it is worth is what the hold of that sum in a sandbox is worth. -/
noncomputable def Tryz.pinned : Pinned := { name := "ytogkdhpnbpgheaagreatdoor", sum := "29384e195eefa0e520931c9c58a5cef13b71df7216da0e14f95b01f4a3e8f4fa", checked := Tryz.checked }
namespace Rows
def none {H : Type} : Left H := { results := [], args := [] }

/- WHAT THE LISTED PACKAGE-LEVEL VARIABLES READ AS WHEN THE CALL BEGINS. Each datum BY PROGRAM (the guide's laid-datum.mjs) off the statement by which the dump's own 'gosem.cut.vars' lays the variable. In a bare row this is a premise. The card (YtogkdhpnbpgheaaGreatDoorCards.lean) ties it to the program's text. -/
def laid_chatelaine_keys_kinds {H : Type} : DataW H := .agg [.agg [.lit (.string [118, 111, 105, 100]), .lit (.int .i64 0), .lit (.int .i64 0), .lit (.int .i64 0), .lit (.int .i64 0), .lit (.int .i64 0), .lit (.bool false)], .agg [.lit (.string [110, 117, 109, 98, 101, 114]), .lit (.int .i64 0), .lit (.int .i64 0), .lit (.int .i64 0), .lit (.int .i64 0), .lit (.int .i64 0), .lit (.bool true)], .agg [.lit (.string [110, 111, 100, 101]), .lit (.int .i64 1), .lit (.int .i64 63), .lit (.int .i64 4294967295), .lit (.int .i64 0), .lit (.int .i64 7), .lit (.bool false)], .agg [.lit (.string [112, 97, 103, 101]), .lit (.int .i64 2), .lit (.int .i64 63), .lit (.int .i64 4294967295), .lit (.int .i64 0), .lit (.int .i64 1), .lit (.bool false)], .agg [.lit (.string [98, 97, 110, 107]), .lit (.int .i64 1), .lit (.int .i64 63), .lit (.int .i64 4294967295), .lit (.int .i64 0), .lit (.int .i64 0), .lit (.bool false)], .agg [.lit (.string [112, 114, 111, 99]), .lit (.int .i64 1), .lit (.int .i64 63), .lit (.int .i64 4294967295), .lit (.int .i64 0), .lit (.int .i64 0), .lit (.bool false)], .agg [.lit (.string [115, 116, 97, 114, 116]), .lit (.int .i64 1), .lit (.int .i64 63), .lit (.int .i64 4294967295), .lit (.int .i64 0), .lit (.int .i64 0), .lit (.bool true)], .agg [.lit (.string [114, 101, 115, 117, 109, 101]), .lit (.int .i64 1), .lit (.int .i64 63), .lit (.int .i64 4294967295), .lit (.int .i64 4294967295), .lit (.int .i64 0), .lit (.bool false)], .agg [.lit (.string [100, 105, 115, 99, 114, 105, 109]), .lit (.int .i64 0), .lit (.int .i64 0), .lit (.int .i64 0), .lit (.int .i64 0), .lit (.int .i64 0), .lit (.bool false)], .agg [.lit (.string [99, 108, 111, 99, 107]), .lit (.int .i64 0), .lit (.int .i64 0), .lit (.int .i64 0), .lit (.int .i64 0), .lit (.int .i64 0), .lit (.bool false)], .agg [.lit (.string [99, 104, 101, 99, 107]), .lit (.int .i64 0), .lit (.int .i64 0), .lit (.int .i64 0), .lit (.int .i64 0), .lit (.int .i64 0), .lit (.bool false)]]

/-- 'chatelainelaw14.OrdersPlay': WHATEVER THE INPUT: true; the input reads as it did. -/
def ordersPlaySpec : ChangeSpec := { name := "ordersPlay", fn := fun _ => fun
  | [d1, d2] => { results := [.lit (.bool true)], args := [d1, d2] }
  | _ => none }
def ordersPlayRow : OpenClaim := { program := "ytogkdhpnbpgheaagreatdoor", sum := "29384e195eefa0e520931c9c58a5cef13b71df7216da0e14f95b01f4a3e8f4fa", func := "chatelaine/chatelainelaw14.OrdersPlay", spec := "ordersPlay", unfollowed := true, recurses := true, named := ["chatelaine/keys.kinds"], plainKeys := false, apart := false, laid := [("chatelaine/keys.kinds", laid_chatelaine_keys_kinds)] }
def OrdersPlaySaid : Prop := ordersPlayRow.holds Tryz.pinned (OpenSpec.ofChange ordersPlaySpec)

/-- ITS FALSE NEIGHBOUR: 'it returns false'. Refute it at one input. -/
def ordersPlayWrong : ChangeSpec := { name := "ordersPlay", fn := fun _ => fun
  | [d1, d2] => { results := [.lit (.bool false)], args := [d1, d2] }
  | _ => none }
def OrdersPlayWrongFalsely : Prop := ordersPlayRow.holds Tryz.pinned (OpenSpec.ofChange ordersPlayWrong)

/-- 'chatelainelaw14.OrdersOne': WHATEVER THE INPUT: true; the input reads as it did. -/
def ordersOneSpec : ChangeSpec := { name := "ordersOne", fn := fun _ => fun
  | [d1, d2] => { results := [.lit (.bool true)], args := [d1, d2] }
  | _ => none }
def ordersOneRow : OpenClaim := { program := "ytogkdhpnbpgheaagreatdoor", sum := "29384e195eefa0e520931c9c58a5cef13b71df7216da0e14f95b01f4a3e8f4fa", func := "chatelaine/chatelainelaw14.OrdersOne", spec := "ordersOne", unfollowed := true, recurses := true, named := ["chatelaine/keys.kinds"], plainKeys := false, apart := false, laid := [("chatelaine/keys.kinds", laid_chatelaine_keys_kinds)] }
def OrdersOneSaid : Prop := ordersOneRow.holds Tryz.pinned (OpenSpec.ofChange ordersOneSpec)

/-- ITS FALSE NEIGHBOUR: 'it returns false'. Refute it at one input. -/
def ordersOneWrong : ChangeSpec := { name := "ordersOne", fn := fun _ => fun
  | [d1, d2] => { results := [.lit (.bool false)], args := [d1, d2] }
  | _ => none }
def OrdersOneWrongFalsely : Prop := ordersOneRow.holds Tryz.pinned (OpenSpec.ofChange ordersOneWrong)

/-- 'chatelainelaw14.OrdersCodes': WHATEVER THE INPUT: true; the input reads as it did. -/
def ordersCodesSpec : ChangeSpec := { name := "ordersCodes", fn := fun _ => fun
  | [d1, d2] => { results := [.lit (.bool true)], args := [d1, d2] }
  | _ => none }
def ordersCodesRow : OpenClaim := { program := "ytogkdhpnbpgheaagreatdoor", sum := "29384e195eefa0e520931c9c58a5cef13b71df7216da0e14f95b01f4a3e8f4fa", func := "chatelaine/chatelainelaw14.OrdersCodes", spec := "ordersCodes", unfollowed := true, recurses := true, named := ["chatelaine/keys.kinds"], plainKeys := false, apart := false, laid := [("chatelaine/keys.kinds", laid_chatelaine_keys_kinds)] }
def OrdersCodesSaid : Prop := ordersCodesRow.holds Tryz.pinned (OpenSpec.ofChange ordersCodesSpec)

/-- ITS FALSE NEIGHBOUR: 'it returns false'. Refute it at one input. -/
def ordersCodesWrong : ChangeSpec := { name := "ordersCodes", fn := fun _ => fun
  | [d1, d2] => { results := [.lit (.bool false)], args := [d1, d2] }
  | _ => none }
def OrdersCodesWrongFalsely : Prop := ordersCodesRow.holds Tryz.pinned (OpenSpec.ofChange ordersCodesWrong)

/-- 'chatelainelaw14.OrdersWithin': WHATEVER THE INPUT: true; the input reads as it did. -/
def ordersWithinSpec : ChangeSpec := { name := "ordersWithin", fn := fun _ => fun
  | [d1, d2] => { results := [.lit (.bool true)], args := [d1, d2] }
  | _ => none }
def ordersWithinRow : OpenClaim := { program := "ytogkdhpnbpgheaagreatdoor", sum := "29384e195eefa0e520931c9c58a5cef13b71df7216da0e14f95b01f4a3e8f4fa", func := "chatelaine/chatelainelaw14.OrdersWithin", spec := "ordersWithin", unfollowed := true, recurses := true, named := ["chatelaine/keys.kinds"], plainKeys := false, apart := false, laid := [("chatelaine/keys.kinds", laid_chatelaine_keys_kinds)] }
def OrdersWithinSaid : Prop := ordersWithinRow.holds Tryz.pinned (OpenSpec.ofChange ordersWithinSpec)

/-- ITS FALSE NEIGHBOUR: 'it returns false'. Refute it at one input. -/
def ordersWithinWrong : ChangeSpec := { name := "ordersWithin", fn := fun _ => fun
  | [d1, d2] => { results := [.lit (.bool false)], args := [d1, d2] }
  | _ => none }
def OrdersWithinWrongFalsely : Prop := ordersWithinRow.holds Tryz.pinned (OpenSpec.ofChange ordersWithinWrong)

/-- 'chatelainelaw14.OrdersNil': WHATEVER THE INPUT: true; the input reads as it did. -/
def ordersNilSpec : ChangeSpec := { name := "ordersNil", fn := fun _ => fun
  | [d] => { results := [.lit (.bool true)], args := [d] }
  | _ => none }
def ordersNilRow : OpenClaim := { program := "ytogkdhpnbpgheaagreatdoor", sum := "29384e195eefa0e520931c9c58a5cef13b71df7216da0e14f95b01f4a3e8f4fa", func := "chatelaine/chatelainelaw14.OrdersNil", spec := "ordersNil", unfollowed := true, recurses := true, named := ["chatelaine/keys.kinds"], plainKeys := false, apart := false, laid := [("chatelaine/keys.kinds", laid_chatelaine_keys_kinds)] }
def OrdersNilSaid : Prop := ordersNilRow.holds Tryz.pinned (OpenSpec.ofChange ordersNilSpec)

/-- ITS FALSE NEIGHBOUR: 'it returns false'. Refute it at one input. -/
def ordersNilWrong : ChangeSpec := { name := "ordersNil", fn := fun _ => fun
  | [d] => { results := [.lit (.bool false)], args := [d] }
  | _ => none }
def OrdersNilWrongFalsely : Prop := ordersNilRow.holds Tryz.pinned (OpenSpec.ofChange ordersNilWrong)

/-- 'chatelainelaw14.OrdersKinds': WHATEVER THE INPUT: true; the input reads as it did. -/
def ordersKindsSpec : ChangeSpec := { name := "ordersKinds", fn := fun _ => fun
  | [d1, d2, d3] => { results := [.lit (.bool true)], args := [d1, d2, d3] }
  | _ => none }
def ordersKindsRow : OpenClaim := { program := "ytogkdhpnbpgheaagreatdoor", sum := "29384e195eefa0e520931c9c58a5cef13b71df7216da0e14f95b01f4a3e8f4fa", func := "chatelaine/chatelainelaw14.OrdersKinds", spec := "ordersKinds", unfollowed := true, recurses := true, named := ["chatelaine/keys.kinds"], plainKeys := false, apart := false, laid := [("chatelaine/keys.kinds", laid_chatelaine_keys_kinds)] }
def OrdersKindsSaid : Prop := ordersKindsRow.holds Tryz.pinned (OpenSpec.ofChange ordersKindsSpec)

/-- ITS FALSE NEIGHBOUR: 'it returns false'. Refute it at one input. -/
def ordersKindsWrong : ChangeSpec := { name := "ordersKinds", fn := fun _ => fun
  | [d1, d2, d3] => { results := [.lit (.bool false)], args := [d1, d2, d3] }
  | _ => none }
def OrdersKindsWrongFalsely : Prop := ordersKindsRow.holds Tryz.pinned (OpenSpec.ofChange ordersKindsWrong)

/-- 'chatelainelaw14.OrdersSpaces': WHATEVER THE INPUT: true; the input reads as it did. -/
def ordersSpacesSpec : ChangeSpec := { name := "ordersSpaces", fn := fun _ => fun
  | [d1, d2, d3] => { results := [.lit (.bool true)], args := [d1, d2, d3] }
  | _ => none }
def ordersSpacesRow : OpenClaim := { program := "ytogkdhpnbpgheaagreatdoor", sum := "29384e195eefa0e520931c9c58a5cef13b71df7216da0e14f95b01f4a3e8f4fa", func := "chatelaine/chatelainelaw14.OrdersSpaces", spec := "ordersSpaces", unfollowed := true, recurses := true, named := ["chatelaine/keys.kinds"], plainKeys := false, apart := false, laid := [("chatelaine/keys.kinds", laid_chatelaine_keys_kinds)] }
def OrdersSpacesSaid : Prop := ordersSpacesRow.holds Tryz.pinned (OpenSpec.ofChange ordersSpacesSpec)

/-- ITS FALSE NEIGHBOUR: 'it returns false'. Refute it at one input. -/
def ordersSpacesWrong : ChangeSpec := { name := "ordersSpaces", fn := fun _ => fun
  | [d1, d2, d3] => { results := [.lit (.bool false)], args := [d1, d2, d3] }
  | _ => none }
def OrdersSpacesWrongFalsely : Prop := ordersSpacesRow.holds Tryz.pinned (OpenSpec.ofChange ordersSpacesWrong)

/- THE SECOND FORM. 'bulk': how many values and letters a reading holds, each counted each time it is reached (what is shared counts as often as it is met; a slice's spare places count too). A statement '..UptoSaid' is the law's where the arguments, and the package variables that the reading takes, are together of bulk at most 1048576: NARROWER than '..Said'. Prove '..Said' where nothing that the law and all that it calls make is longer than what came in: it says more and counts as full. Else prove '..UptoSaid'. A law counts once. -/
mutual
def uptoBulk {H : Type} : DataW H → Nat
  | .lit (.string bytes) => bytes.length + 1
  | .lit _ => 1
  | .nil => 1
  | .ptr d => uptoBulk d + 1
  | .slice elems spare => uptoBulkAll elems + uptoBulkAll spare + 1
  | .agg parts => uptoBulkAll parts + 1
  | .iface _ d => uptoBulk d + 1
  | .map entries => uptoBulkEntries entries + 1
  | .held _ => 1
def uptoBulkAll {H : Type} : List (DataW H) → Nat
  | [] => 0
  | d :: r => uptoBulk d + uptoBulkAll r
def uptoBulkEntries {H : Type} : List (Lit × DataW H) → Nat
  | [] => 0
  | x :: r => uptoBulkEntry x + uptoBulkEntries r
def uptoBulkEntry {H : Type} : Lit × DataW H → Nat
  | (.string bytes, d) => bytes.length + uptoBulk d + 1
  | (_, d) => uptoBulk d + 1
 end
def uptoSmall : (H : Type) → List (DataW H) → Bool := fun _ ds => decide (uptoBulkAll ds ≤ 1048576)
def OpenSpec.upto (s : _root_.Go.ChangeSpec) : _root_.Go.OpenSpec := { _root_.Go.OpenSpec.ofChange s with cond := some uptoSmall }

/-- 'chatelainelaw14.OrdersPlay', WHERE WHAT IT READS IS OF BULK AT MOST 1048576: true; the input reads as it did. -/
def ordersPlayUptoRow : OpenClaim := { program := "ytogkdhpnbpgheaagreatdoor", sum := "29384e195eefa0e520931c9c58a5cef13b71df7216da0e14f95b01f4a3e8f4fa", func := "chatelaine/chatelainelaw14.OrdersPlay", spec := "ordersPlay", unfollowed := true, recurses := true, named := ["chatelaine/keys.kinds"], plainKeys := false, apart := false, laid := [("chatelaine/keys.kinds", laid_chatelaine_keys_kinds)], narrowed := true }
def OrdersPlayUptoSaid : Prop := ordersPlayUptoRow.holds Tryz.pinned (OpenSpec.upto ordersPlaySpec)

/-- 'chatelainelaw14.OrdersOne', WHERE WHAT IT READS IS OF BULK AT MOST 1048576: true; the input reads as it did. -/
def ordersOneUptoRow : OpenClaim := { program := "ytogkdhpnbpgheaagreatdoor", sum := "29384e195eefa0e520931c9c58a5cef13b71df7216da0e14f95b01f4a3e8f4fa", func := "chatelaine/chatelainelaw14.OrdersOne", spec := "ordersOne", unfollowed := true, recurses := true, named := ["chatelaine/keys.kinds"], plainKeys := false, apart := false, laid := [("chatelaine/keys.kinds", laid_chatelaine_keys_kinds)], narrowed := true }
def OrdersOneUptoSaid : Prop := ordersOneUptoRow.holds Tryz.pinned (OpenSpec.upto ordersOneSpec)

/-- 'chatelainelaw14.OrdersCodes', WHERE WHAT IT READS IS OF BULK AT MOST 1048576: true; the input reads as it did. -/
def ordersCodesUptoRow : OpenClaim := { program := "ytogkdhpnbpgheaagreatdoor", sum := "29384e195eefa0e520931c9c58a5cef13b71df7216da0e14f95b01f4a3e8f4fa", func := "chatelaine/chatelainelaw14.OrdersCodes", spec := "ordersCodes", unfollowed := true, recurses := true, named := ["chatelaine/keys.kinds"], plainKeys := false, apart := false, laid := [("chatelaine/keys.kinds", laid_chatelaine_keys_kinds)], narrowed := true }
def OrdersCodesUptoSaid : Prop := ordersCodesUptoRow.holds Tryz.pinned (OpenSpec.upto ordersCodesSpec)

/-- 'chatelainelaw14.OrdersWithin', WHERE WHAT IT READS IS OF BULK AT MOST 1048576: true; the input reads as it did. -/
def ordersWithinUptoRow : OpenClaim := { program := "ytogkdhpnbpgheaagreatdoor", sum := "29384e195eefa0e520931c9c58a5cef13b71df7216da0e14f95b01f4a3e8f4fa", func := "chatelaine/chatelainelaw14.OrdersWithin", spec := "ordersWithin", unfollowed := true, recurses := true, named := ["chatelaine/keys.kinds"], plainKeys := false, apart := false, laid := [("chatelaine/keys.kinds", laid_chatelaine_keys_kinds)], narrowed := true }
def OrdersWithinUptoSaid : Prop := ordersWithinUptoRow.holds Tryz.pinned (OpenSpec.upto ordersWithinSpec)

/-- 'chatelainelaw14.OrdersNil', WHERE WHAT IT READS IS OF BULK AT MOST 1048576: true; the input reads as it did. -/
def ordersNilUptoRow : OpenClaim := { program := "ytogkdhpnbpgheaagreatdoor", sum := "29384e195eefa0e520931c9c58a5cef13b71df7216da0e14f95b01f4a3e8f4fa", func := "chatelaine/chatelainelaw14.OrdersNil", spec := "ordersNil", unfollowed := true, recurses := true, named := ["chatelaine/keys.kinds"], plainKeys := false, apart := false, laid := [("chatelaine/keys.kinds", laid_chatelaine_keys_kinds)], narrowed := true }
def OrdersNilUptoSaid : Prop := ordersNilUptoRow.holds Tryz.pinned (OpenSpec.upto ordersNilSpec)

/-- 'chatelainelaw14.OrdersKinds', WHERE WHAT IT READS IS OF BULK AT MOST 1048576: true; the input reads as it did. -/
def ordersKindsUptoRow : OpenClaim := { program := "ytogkdhpnbpgheaagreatdoor", sum := "29384e195eefa0e520931c9c58a5cef13b71df7216da0e14f95b01f4a3e8f4fa", func := "chatelaine/chatelainelaw14.OrdersKinds", spec := "ordersKinds", unfollowed := true, recurses := true, named := ["chatelaine/keys.kinds"], plainKeys := false, apart := false, laid := [("chatelaine/keys.kinds", laid_chatelaine_keys_kinds)], narrowed := true }
def OrdersKindsUptoSaid : Prop := ordersKindsUptoRow.holds Tryz.pinned (OpenSpec.upto ordersKindsSpec)

/-- 'chatelainelaw14.OrdersSpaces', WHERE WHAT IT READS IS OF BULK AT MOST 1048576: true; the input reads as it did. -/
def ordersSpacesUptoRow : OpenClaim := { program := "ytogkdhpnbpgheaagreatdoor", sum := "29384e195eefa0e520931c9c58a5cef13b71df7216da0e14f95b01f4a3e8f4fa", func := "chatelaine/chatelainelaw14.OrdersSpaces", spec := "ordersSpaces", unfollowed := true, recurses := true, named := ["chatelaine/keys.kinds"], plainKeys := false, apart := false, laid := [("chatelaine/keys.kinds", laid_chatelaine_keys_kinds)], narrowed := true }
def OrdersSpacesUptoSaid : Prop := ordersSpacesUptoRow.holds Tryz.pinned (OpenSpec.upto ordersSpacesSpec)

end Rows
end Go.Proofs.YtogkdhpnbpgheaaGreatDoor
