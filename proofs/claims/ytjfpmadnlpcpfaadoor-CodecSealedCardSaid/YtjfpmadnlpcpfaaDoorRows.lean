/-
  NARROWER THAN 'FOR EVERY INPUT', by the rows' own cells (each row's printed sentence says how): CodecPutKey: laid · CodecGetKey: laid · CodecPut: laid · CodecGet: laid · CodecSealed: laid · CodecKeys: laid · CodecSlots: laid · CodecBack: laid.
  DERIVED. THE GIVEN ROWS OF THIS SEAT. 8 by the template 'for every input the law returns true; each argument reads behind the call as it read before'; 0 by the template 'total and deterministic' (their statements: YtjfpmadnlpcpfaaDoorTotals.lean).
  GIVEN WITH THE SEED: the statements are not yours to turn. If you find one false, say at which input.
  Laid BY PROGRAM, IN A SANDBOX (cutbox-rows.mjs): the forced cells as the released guide's own fill.sh prints them over the translation 370eb2a7ba3269d9… (all of the seat's roots in one cut). By AI agents, Wed Nov 11 2026. No macro, syntax, notation, axiom, sorry.
-/
import Derived.Test.YtjfpmadnlpcpfaaDoorChecked
import GoSem.Claim
import GoSem.ClaimJoined
import GoSem.ClaimMapViews
import Derived.JoinedTies
import Derived.KernelRfl
namespace Go.Proofs.YtjfpmadnlpcpfaaDoor
/- THE CELL 'sum', in the pinned program and in every row, IS THE sha256 OF THE DUMP (.gsa) THAT YtjfpmadnlpcpfaaDoorProg.lean LOADS. Nothing in Lean hashes anything: it is a label: what it is worth is what the hold of that sum in a sandbox is worth. -/
noncomputable def Tryd.pinned : Pinned := { name := "ytjfpmadnlpcpfaadoor", sum := "370eb2a7ba3269d9241fcc100088dda9525314a23d2f9ee7d3b5aeebd6d6a83f", checked := Tryd.checked }
namespace Rows
def none {H : Type} : Left H := { results := [], args := [] }

/- WHAT THE LISTED PACKAGE-LEVEL VARIABLES READ AS WHEN THE CALL BEGINS. Each datum BY PROGRAM (the guide's laid-datum.mjs) off the statement by which the dump's own 'gosem.cut.vars' lays the variable. In a bare row this is a premise. The card (YtjfpmadnlpcpfaaDoorCards.lean) ties it to the program's text. -/
def laid_chatelaine_keys_kinds {H : Type} : DataW H := .agg [.agg [.lit (.string [118, 111, 105, 100]), .lit (.int .i64 0), .lit (.int .i64 0), .lit (.int .i64 0), .lit (.int .i64 0), .lit (.int .i64 0), .lit (.bool false)], .agg [.lit (.string [110, 117, 109, 98, 101, 114]), .lit (.int .i64 0), .lit (.int .i64 0), .lit (.int .i64 0), .lit (.int .i64 0), .lit (.int .i64 0), .lit (.bool true)], .agg [.lit (.string [110, 111, 100, 101]), .lit (.int .i64 1), .lit (.int .i64 63), .lit (.int .i64 4294967295), .lit (.int .i64 0), .lit (.int .i64 7), .lit (.bool false)], .agg [.lit (.string [112, 97, 103, 101]), .lit (.int .i64 2), .lit (.int .i64 63), .lit (.int .i64 4294967295), .lit (.int .i64 0), .lit (.int .i64 1), .lit (.bool false)], .agg [.lit (.string [98, 97, 110, 107]), .lit (.int .i64 1), .lit (.int .i64 63), .lit (.int .i64 4294967295), .lit (.int .i64 0), .lit (.int .i64 0), .lit (.bool false)], .agg [.lit (.string [112, 114, 111, 99]), .lit (.int .i64 1), .lit (.int .i64 63), .lit (.int .i64 4294967295), .lit (.int .i64 0), .lit (.int .i64 0), .lit (.bool false)], .agg [.lit (.string [115, 116, 97, 114, 116]), .lit (.int .i64 1), .lit (.int .i64 63), .lit (.int .i64 4294967295), .lit (.int .i64 0), .lit (.int .i64 0), .lit (.bool true)], .agg [.lit (.string [114, 101, 115, 117, 109, 101]), .lit (.int .i64 1), .lit (.int .i64 63), .lit (.int .i64 4294967295), .lit (.int .i64 4294967295), .lit (.int .i64 0), .lit (.bool false)], .agg [.lit (.string [100, 105, 115, 99, 114, 105, 109]), .lit (.int .i64 0), .lit (.int .i64 0), .lit (.int .i64 0), .lit (.int .i64 0), .lit (.int .i64 0), .lit (.bool false)], .agg [.lit (.string [99, 108, 111, 99, 107]), .lit (.int .i64 0), .lit (.int .i64 0), .lit (.int .i64 0), .lit (.int .i64 0), .lit (.int .i64 0), .lit (.bool false)], .agg [.lit (.string [99, 104, 101, 99, 107]), .lit (.int .i64 0), .lit (.int .i64 0), .lit (.int .i64 0), .lit (.int .i64 0), .lit (.int .i64 0), .lit (.bool false)]]

/-- 'chatelainelaw05.CodecPutKey': WHATEVER THE INPUT: true; the input reads as it did. -/
def codecPutKeySpec : ChangeSpec := { name := "codecPutKey", fn := fun _ => fun
  | [d] => { results := [.lit (.bool true)], args := [d] }
  | _ => none }
def codecPutKeyRow : OpenClaim := { program := "ytjfpmadnlpcpfaadoor", sum := "370eb2a7ba3269d9241fcc100088dda9525314a23d2f9ee7d3b5aeebd6d6a83f", func := "chatelaine/chatelainelaw05.CodecPutKey", spec := "codecPutKey", unfollowed := true, recurses := true, named := ["chatelaine/keys.kinds"], apart := false, laid := [("chatelaine/keys.kinds", laid_chatelaine_keys_kinds)] }
def CodecPutKeySaid : Prop := codecPutKeyRow.holds Tryd.pinned (OpenSpec.ofChange codecPutKeySpec)

/-- ITS FALSE NEIGHBOUR: 'it returns false'. Refute it at one input. -/
def codecPutKeyWrong : ChangeSpec := { name := "codecPutKey", fn := fun _ => fun
  | [d] => { results := [.lit (.bool false)], args := [d] }
  | _ => none }
def CodecPutKeyWrongFalsely : Prop := codecPutKeyRow.holds Tryd.pinned (OpenSpec.ofChange codecPutKeyWrong)

/-- 'chatelainelaw05.CodecGetKey': WHATEVER THE INPUT: true; the input reads as it did. -/
def codecGetKeySpec : ChangeSpec := { name := "codecGetKey", fn := fun _ => fun
  | [d] => { results := [.lit (.bool true)], args := [d] }
  | _ => none }
def codecGetKeyRow : OpenClaim := { program := "ytjfpmadnlpcpfaadoor", sum := "370eb2a7ba3269d9241fcc100088dda9525314a23d2f9ee7d3b5aeebd6d6a83f", func := "chatelaine/chatelainelaw05.CodecGetKey", spec := "codecGetKey", unfollowed := true, recurses := true, named := ["chatelaine/keys.kinds"], apart := false, laid := [("chatelaine/keys.kinds", laid_chatelaine_keys_kinds)] }
def CodecGetKeySaid : Prop := codecGetKeyRow.holds Tryd.pinned (OpenSpec.ofChange codecGetKeySpec)

/-- ITS FALSE NEIGHBOUR: 'it returns false'. Refute it at one input. -/
def codecGetKeyWrong : ChangeSpec := { name := "codecGetKey", fn := fun _ => fun
  | [d] => { results := [.lit (.bool false)], args := [d] }
  | _ => none }
def CodecGetKeyWrongFalsely : Prop := codecGetKeyRow.holds Tryd.pinned (OpenSpec.ofChange codecGetKeyWrong)

/-- 'chatelainelaw05.CodecPut': WHATEVER THE INPUT: true; the input reads as it did. -/
def codecPutSpec : ChangeSpec := { name := "codecPut", fn := fun _ => fun
  | [d1, d2] => { results := [.lit (.bool true)], args := [d1, d2] }
  | _ => none }
def codecPutRow : OpenClaim := { program := "ytjfpmadnlpcpfaadoor", sum := "370eb2a7ba3269d9241fcc100088dda9525314a23d2f9ee7d3b5aeebd6d6a83f", func := "chatelaine/chatelainelaw05.CodecPut", spec := "codecPut", unfollowed := true, recurses := true, named := ["chatelaine/keys.kinds"], apart := false, laid := [("chatelaine/keys.kinds", laid_chatelaine_keys_kinds)] }
def CodecPutSaid : Prop := codecPutRow.holds Tryd.pinned (OpenSpec.ofChange codecPutSpec)

/-- ITS FALSE NEIGHBOUR: 'it returns false'. Refute it at one input. -/
def codecPutWrong : ChangeSpec := { name := "codecPut", fn := fun _ => fun
  | [d1, d2] => { results := [.lit (.bool false)], args := [d1, d2] }
  | _ => none }
def CodecPutWrongFalsely : Prop := codecPutRow.holds Tryd.pinned (OpenSpec.ofChange codecPutWrong)

/-- 'chatelainelaw05.CodecGet': WHATEVER THE INPUT: true; the input reads as it did. -/
def codecGetSpec : ChangeSpec := { name := "codecGet", fn := fun _ => fun
  | [d1, d2] => { results := [.lit (.bool true)], args := [d1, d2] }
  | _ => none }
def codecGetRow : OpenClaim := { program := "ytjfpmadnlpcpfaadoor", sum := "370eb2a7ba3269d9241fcc100088dda9525314a23d2f9ee7d3b5aeebd6d6a83f", func := "chatelaine/chatelainelaw05.CodecGet", spec := "codecGet", unfollowed := true, recurses := true, named := ["chatelaine/keys.kinds"], apart := false, laid := [("chatelaine/keys.kinds", laid_chatelaine_keys_kinds)] }
def CodecGetSaid : Prop := codecGetRow.holds Tryd.pinned (OpenSpec.ofChange codecGetSpec)

/-- ITS FALSE NEIGHBOUR: 'it returns false'. Refute it at one input. -/
def codecGetWrong : ChangeSpec := { name := "codecGet", fn := fun _ => fun
  | [d1, d2] => { results := [.lit (.bool false)], args := [d1, d2] }
  | _ => none }
def CodecGetWrongFalsely : Prop := codecGetRow.holds Tryd.pinned (OpenSpec.ofChange codecGetWrong)

/-- 'chatelainelaw05.CodecSealed': WHATEVER THE INPUT: true; the input reads as it did. -/
def codecSealedSpec : ChangeSpec := { name := "codecSealed", fn := fun _ => fun
  | [d1, d2] => { results := [.lit (.bool true)], args := [d1, d2] }
  | _ => none }
def codecSealedRow : OpenClaim := { program := "ytjfpmadnlpcpfaadoor", sum := "370eb2a7ba3269d9241fcc100088dda9525314a23d2f9ee7d3b5aeebd6d6a83f", func := "chatelaine/chatelainelaw05.CodecSealed", spec := "codecSealed", unfollowed := true, recurses := true, named := ["chatelaine/keys.kinds"], apart := false, laid := [("chatelaine/keys.kinds", laid_chatelaine_keys_kinds)] }
def CodecSealedSaid : Prop := codecSealedRow.holds Tryd.pinned (OpenSpec.ofChange codecSealedSpec)

/-- ITS FALSE NEIGHBOUR: 'it returns false'. Refute it at one input. -/
def codecSealedWrong : ChangeSpec := { name := "codecSealed", fn := fun _ => fun
  | [d1, d2] => { results := [.lit (.bool false)], args := [d1, d2] }
  | _ => none }
def CodecSealedWrongFalsely : Prop := codecSealedRow.holds Tryd.pinned (OpenSpec.ofChange codecSealedWrong)

/-- 'chatelainelaw05.CodecKeys': WHATEVER THE INPUT: true; the input reads as it did. -/
def codecKeysSpec : ChangeSpec := { name := "codecKeys", fn := fun _ => fun
  | [d1, d2] => { results := [.lit (.bool true)], args := [d1, d2] }
  | _ => none }
def codecKeysRow : OpenClaim := { program := "ytjfpmadnlpcpfaadoor", sum := "370eb2a7ba3269d9241fcc100088dda9525314a23d2f9ee7d3b5aeebd6d6a83f", func := "chatelaine/chatelainelaw05.CodecKeys", spec := "codecKeys", unfollowed := true, recurses := true, named := ["chatelaine/keys.kinds"], apart := false, laid := [("chatelaine/keys.kinds", laid_chatelaine_keys_kinds)] }
def CodecKeysSaid : Prop := codecKeysRow.holds Tryd.pinned (OpenSpec.ofChange codecKeysSpec)

/-- ITS FALSE NEIGHBOUR: 'it returns false'. Refute it at one input. -/
def codecKeysWrong : ChangeSpec := { name := "codecKeys", fn := fun _ => fun
  | [d1, d2] => { results := [.lit (.bool false)], args := [d1, d2] }
  | _ => none }
def CodecKeysWrongFalsely : Prop := codecKeysRow.holds Tryd.pinned (OpenSpec.ofChange codecKeysWrong)

/-- 'chatelainelaw05.CodecSlots': WHATEVER THE INPUT: true; the input reads as it did. -/
def codecSlotsSpec : ChangeSpec := { name := "codecSlots", fn := fun _ => fun
  | [d1, d2, d3] => { results := [.lit (.bool true)], args := [d1, d2, d3] }
  | _ => none }
def codecSlotsRow : OpenClaim := { program := "ytjfpmadnlpcpfaadoor", sum := "370eb2a7ba3269d9241fcc100088dda9525314a23d2f9ee7d3b5aeebd6d6a83f", func := "chatelaine/chatelainelaw05.CodecSlots", spec := "codecSlots", unfollowed := true, recurses := true, named := ["chatelaine/keys.kinds"], apart := false, laid := [("chatelaine/keys.kinds", laid_chatelaine_keys_kinds)] }
def CodecSlotsSaid : Prop := codecSlotsRow.holds Tryd.pinned (OpenSpec.ofChange codecSlotsSpec)

/-- ITS FALSE NEIGHBOUR: 'it returns false'. Refute it at one input. -/
def codecSlotsWrong : ChangeSpec := { name := "codecSlots", fn := fun _ => fun
  | [d1, d2, d3] => { results := [.lit (.bool false)], args := [d1, d2, d3] }
  | _ => none }
def CodecSlotsWrongFalsely : Prop := codecSlotsRow.holds Tryd.pinned (OpenSpec.ofChange codecSlotsWrong)

/-- 'chatelainelaw05.CodecBack': WHATEVER THE INPUT: true; the input reads as it did. -/
def codecBackSpec : ChangeSpec := { name := "codecBack", fn := fun _ => fun
  | [d1, d2, d3, d4] => { results := [.lit (.bool true)], args := [d1, d2, d3, d4] }
  | _ => none }
def codecBackRow : OpenClaim := { program := "ytjfpmadnlpcpfaadoor", sum := "370eb2a7ba3269d9241fcc100088dda9525314a23d2f9ee7d3b5aeebd6d6a83f", func := "chatelaine/chatelainelaw05.CodecBack", spec := "codecBack", unfollowed := true, recurses := true, named := ["chatelaine/keys.kinds"], apart := false, laid := [("chatelaine/keys.kinds", laid_chatelaine_keys_kinds)] }
def CodecBackSaid : Prop := codecBackRow.holds Tryd.pinned (OpenSpec.ofChange codecBackSpec)

/-- ITS FALSE NEIGHBOUR: 'it returns false'. Refute it at one input. -/
def codecBackWrong : ChangeSpec := { name := "codecBack", fn := fun _ => fun
  | [d1, d2, d3, d4] => { results := [.lit (.bool false)], args := [d1, d2, d3, d4] }
  | _ => none }
def CodecBackWrongFalsely : Prop := codecBackRow.holds Tryd.pinned (OpenSpec.ofChange codecBackWrong)

/- THE SECOND FORM. 'bulk': how many values and letters a reading holds, each counted each time it is reached (what is shared counts as often as it is met; a slice's spare places count too). A statement '..UptoSaid' is the law's where the arguments, and the package variables that the reading takes, are together of bulk at most 1048576: NARROWER than '..Said'. Prove '..Said' where nothing that the law and all that it calls make is longer than what came in: it says more and counts as full. Else prove '..UptoSaid'. A law counts once. -/
mutual
def uptoBulk {H : Type} : DataW H → Nat
  | .lit (.string bytes) => bytes.length + 1
  | .lit _ => 1
  | .nil => 1
  | .ptr d => uptoBulk d + 1
  | .slice elems spare => uptoBulkAll elems + uptoBulkAll spare + 1
  | .agg parts => uptoBulkAll parts + 1
  | .iface _ d => uptoBulk d + 1
  | .map entries => uptoBulkEntries entries + 1
  | .held _ => 1
def uptoBulkAll {H : Type} : List (DataW H) → Nat
  | [] => 0
  | d :: r => uptoBulk d + uptoBulkAll r
def uptoBulkEntries {H : Type} : List (Lit × DataW H) → Nat
  | [] => 0
  | x :: r => uptoBulkEntry x + uptoBulkEntries r
def uptoBulkEntry {H : Type} : Lit × DataW H → Nat
  | (.string bytes, d) => bytes.length + uptoBulk d + 1
  | (_, d) => uptoBulk d + 1
 end
def uptoSmall : (H : Type) → List (DataW H) → Bool := fun _ ds => decide (uptoBulkAll ds ≤ 1048576)
def OpenSpec.upto (s : _root_.Go.ChangeSpec) : _root_.Go.OpenSpec := { _root_.Go.OpenSpec.ofChange s with cond := some uptoSmall }

/-- 'chatelainelaw05.CodecPutKey', WHERE WHAT IT READS IS OF BULK AT MOST 1048576: true; the input reads as it did. -/
def codecPutKeyUptoRow : OpenClaim := { program := "ytjfpmadnlpcpfaadoor", sum := "370eb2a7ba3269d9241fcc100088dda9525314a23d2f9ee7d3b5aeebd6d6a83f", func := "chatelaine/chatelainelaw05.CodecPutKey", spec := "codecPutKey", unfollowed := true, recurses := true, named := ["chatelaine/keys.kinds"], apart := false, laid := [("chatelaine/keys.kinds", laid_chatelaine_keys_kinds)], narrowed := true }
def CodecPutKeyUptoSaid : Prop := codecPutKeyUptoRow.holds Tryd.pinned (OpenSpec.upto codecPutKeySpec)

/-- 'chatelainelaw05.CodecGetKey', WHERE WHAT IT READS IS OF BULK AT MOST 1048576: true; the input reads as it did. -/
def codecGetKeyUptoRow : OpenClaim := { program := "ytjfpmadnlpcpfaadoor", sum := "370eb2a7ba3269d9241fcc100088dda9525314a23d2f9ee7d3b5aeebd6d6a83f", func := "chatelaine/chatelainelaw05.CodecGetKey", spec := "codecGetKey", unfollowed := true, recurses := true, named := ["chatelaine/keys.kinds"], apart := false, laid := [("chatelaine/keys.kinds", laid_chatelaine_keys_kinds)], narrowed := true }
def CodecGetKeyUptoSaid : Prop := codecGetKeyUptoRow.holds Tryd.pinned (OpenSpec.upto codecGetKeySpec)

/-- 'chatelainelaw05.CodecPut', WHERE WHAT IT READS IS OF BULK AT MOST 1048576: true; the input reads as it did. -/
def codecPutUptoRow : OpenClaim := { program := "ytjfpmadnlpcpfaadoor", sum := "370eb2a7ba3269d9241fcc100088dda9525314a23d2f9ee7d3b5aeebd6d6a83f", func := "chatelaine/chatelainelaw05.CodecPut", spec := "codecPut", unfollowed := true, recurses := true, named := ["chatelaine/keys.kinds"], apart := false, laid := [("chatelaine/keys.kinds", laid_chatelaine_keys_kinds)], narrowed := true }
def CodecPutUptoSaid : Prop := codecPutUptoRow.holds Tryd.pinned (OpenSpec.upto codecPutSpec)

/-- 'chatelainelaw05.CodecGet', WHERE WHAT IT READS IS OF BULK AT MOST 1048576: true; the input reads as it did. -/
def codecGetUptoRow : OpenClaim := { program := "ytjfpmadnlpcpfaadoor", sum := "370eb2a7ba3269d9241fcc100088dda9525314a23d2f9ee7d3b5aeebd6d6a83f", func := "chatelaine/chatelainelaw05.CodecGet", spec := "codecGet", unfollowed := true, recurses := true, named := ["chatelaine/keys.kinds"], apart := false, laid := [("chatelaine/keys.kinds", laid_chatelaine_keys_kinds)], narrowed := true }
def CodecGetUptoSaid : Prop := codecGetUptoRow.holds Tryd.pinned (OpenSpec.upto codecGetSpec)

/-- 'chatelainelaw05.CodecSealed', WHERE WHAT IT READS IS OF BULK AT MOST 1048576: true; the input reads as it did. -/
def codecSealedUptoRow : OpenClaim := { program := "ytjfpmadnlpcpfaadoor", sum := "370eb2a7ba3269d9241fcc100088dda9525314a23d2f9ee7d3b5aeebd6d6a83f", func := "chatelaine/chatelainelaw05.CodecSealed", spec := "codecSealed", unfollowed := true, recurses := true, named := ["chatelaine/keys.kinds"], apart := false, laid := [("chatelaine/keys.kinds", laid_chatelaine_keys_kinds)], narrowed := true }
def CodecSealedUptoSaid : Prop := codecSealedUptoRow.holds Tryd.pinned (OpenSpec.upto codecSealedSpec)

/-- 'chatelainelaw05.CodecKeys', WHERE WHAT IT READS IS OF BULK AT MOST 1048576: true; the input reads as it did. -/
def codecKeysUptoRow : OpenClaim := { program := "ytjfpmadnlpcpfaadoor", sum := "370eb2a7ba3269d9241fcc100088dda9525314a23d2f9ee7d3b5aeebd6d6a83f", func := "chatelaine/chatelainelaw05.CodecKeys", spec := "codecKeys", unfollowed := true, recurses := true, named := ["chatelaine/keys.kinds"], apart := false, laid := [("chatelaine/keys.kinds", laid_chatelaine_keys_kinds)], narrowed := true }
def CodecKeysUptoSaid : Prop := codecKeysUptoRow.holds Tryd.pinned (OpenSpec.upto codecKeysSpec)

/-- 'chatelainelaw05.CodecSlots', WHERE WHAT IT READS IS OF BULK AT MOST 1048576: true; the input reads as it did. -/
def codecSlotsUptoRow : OpenClaim := { program := "ytjfpmadnlpcpfaadoor", sum := "370eb2a7ba3269d9241fcc100088dda9525314a23d2f9ee7d3b5aeebd6d6a83f", func := "chatelaine/chatelainelaw05.CodecSlots", spec := "codecSlots", unfollowed := true, recurses := true, named := ["chatelaine/keys.kinds"], apart := false, laid := [("chatelaine/keys.kinds", laid_chatelaine_keys_kinds)], narrowed := true }
def CodecSlotsUptoSaid : Prop := codecSlotsUptoRow.holds Tryd.pinned (OpenSpec.upto codecSlotsSpec)

/-- 'chatelainelaw05.CodecBack', WHERE WHAT IT READS IS OF BULK AT MOST 1048576: true; the input reads as it did. -/
def codecBackUptoRow : OpenClaim := { program := "ytjfpmadnlpcpfaadoor", sum := "370eb2a7ba3269d9241fcc100088dda9525314a23d2f9ee7d3b5aeebd6d6a83f", func := "chatelaine/chatelainelaw05.CodecBack", spec := "codecBack", unfollowed := true, recurses := true, named := ["chatelaine/keys.kinds"], apart := false, laid := [("chatelaine/keys.kinds", laid_chatelaine_keys_kinds)], narrowed := true }
def CodecBackUptoSaid : Prop := codecBackUptoRow.holds Tryd.pinned (OpenSpec.upto codecBackSpec)

end Rows
end Go.Proofs.YtjfpmadnlpcpfaaDoor
