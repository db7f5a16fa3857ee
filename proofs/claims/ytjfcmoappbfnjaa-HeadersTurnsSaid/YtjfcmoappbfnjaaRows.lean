/-
  No cell of these rows narrows 'for every input' (looked for: loops, veiled, ifaces, maps, wideKeys, modest, calm, conditions, laid).
  DERIVED. THE GIVEN ROWS OF THIS SEAT. 4 by the template 'for every input the law returns true; each argument reads behind the call as it read before'; 0 by the template 'total and deterministic' (their statements: YtjfcmoappbfnjaaTotals.lean).
  GIVEN WITH THE SEED: the statements are not yours to turn. If you find one false, say at which input.
  Laid BY PROGRAM, IN A SANDBOX (cutbox-rows.mjs): the forced cells as the released guide's own fill.sh prints them over the translation b8247b8483ebc0f4… (all of the seat's roots in one cut). By AI agents, Wed Nov 11 2026. No macro, syntax, notation, axiom, sorry.
-/
import Derived.Test.YtjfcmoappbfnjaaChecked
import GoSem.Claim
import GoSem.ClaimJoined
import GoSem.ClaimMapViews
import Derived.JoinedTies
import Derived.KernelRfl
namespace Go.Proofs.Ytjfcmoappbfnjaa
/- THE CELL 'sum', in the pinned program and in every row, IS THE sha256 OF THE DUMP (.gsa) THAT YtjfcmoappbfnjaaProg.lean LOADS. Nothing in Lean hashes anything: it is a label: what it is worth is what the hold of that sum in a sandbox is worth. -/
noncomputable def Try.pinned : Pinned := { name := "ytjfcmoappbfnjaa", sum := "b8247b8483ebc0f45029f0e4d97cbbcaf82a99db0745ea7e64c975d20037bb3b", checked := Try.checked }
namespace Rows
def none {H : Type} : Left H := { results := [], args := [] }

/-- 'chatelainelaw08.HeadersWrites': WHATEVER THE INPUT: true; the input reads as it did. -/
def headersWritesSpec : ChangeSpec := { name := "headersWrites", fn := fun _ => fun
  | [d1, d2, d3] => { results := [.lit (.bool true)], args := [d1, d2, d3] }
  | _ => none }
def headersWritesRow : OpenClaim := { program := "ytjfcmoappbfnjaa", sum := "b8247b8483ebc0f45029f0e4d97cbbcaf82a99db0745ea7e64c975d20037bb3b", func := "chatelaine/chatelainelaw08.HeadersWrites", spec := "headersWrites", inPlace := ["maps.clone"], unfollowed := true, recurses := true, apart := false }
def HeadersWritesSaid : Prop := headersWritesRow.holds Try.pinned (OpenSpec.ofChange headersWritesSpec)

/-- ITS FALSE NEIGHBOUR: 'it returns false'. Refute it at one input. -/
def headersWritesWrong : ChangeSpec := { name := "headersWrites", fn := fun _ => fun
  | [d1, d2, d3] => { results := [.lit (.bool false)], args := [d1, d2, d3] }
  | _ => none }
def HeadersWritesWrongFalsely : Prop := headersWritesRow.holds Try.pinned (OpenSpec.ofChange headersWritesWrong)

/-- 'chatelainelaw08.HeadersReads': WHATEVER THE INPUT: true; the input reads as it did. -/
def headersReadsSpec : ChangeSpec := { name := "headersReads", fn := fun _ => fun
  | [d] => { results := [.lit (.bool true)], args := [d] }
  | _ => none }
def headersReadsRow : OpenClaim := { program := "ytjfcmoappbfnjaa", sum := "b8247b8483ebc0f45029f0e4d97cbbcaf82a99db0745ea7e64c975d20037bb3b", func := "chatelaine/chatelainelaw08.HeadersReads", spec := "headersReads", unfollowed := true, recurses := true, apart := false }
def HeadersReadsSaid : Prop := headersReadsRow.holds Try.pinned (OpenSpec.ofChange headersReadsSpec)

/-- ITS FALSE NEIGHBOUR: 'it returns false'. Refute it at one input. -/
def headersReadsWrong : ChangeSpec := { name := "headersReads", fn := fun _ => fun
  | [d] => { results := [.lit (.bool false)], args := [d] }
  | _ => none }
def HeadersReadsWrongFalsely : Prop := headersReadsRow.holds Try.pinned (OpenSpec.ofChange headersReadsWrong)

/-- 'chatelainelaw08.HeadersSealed': WHATEVER THE INPUT: true; the input reads as it did. -/
def headersSealedSpec : ChangeSpec := { name := "headersSealed", fn := fun _ => fun
  | [d1, d2, d3] => { results := [.lit (.bool true)], args := [d1, d2, d3] }
  | _ => none }
def headersSealedRow : OpenClaim := { program := "ytjfcmoappbfnjaa", sum := "b8247b8483ebc0f45029f0e4d97cbbcaf82a99db0745ea7e64c975d20037bb3b", func := "chatelaine/chatelainelaw08.HeadersSealed", spec := "headersSealed", unfollowed := true, recurses := true, apart := false }
def HeadersSealedSaid : Prop := headersSealedRow.holds Try.pinned (OpenSpec.ofChange headersSealedSpec)

/-- ITS FALSE NEIGHBOUR: 'it returns false'. Refute it at one input. -/
def headersSealedWrong : ChangeSpec := { name := "headersSealed", fn := fun _ => fun
  | [d1, d2, d3] => { results := [.lit (.bool false)], args := [d1, d2, d3] }
  | _ => none }
def HeadersSealedWrongFalsely : Prop := headersSealedRow.holds Try.pinned (OpenSpec.ofChange headersSealedWrong)

/-- 'chatelainelaw08.HeadersTurns': WHATEVER THE INPUT: true; the input reads as it did. -/
def headersTurnsSpec : ChangeSpec := { name := "headersTurns", fn := fun _ => fun
  | [d1, d2, d3, d4] => { results := [.lit (.bool true)], args := [d1, d2, d3, d4] }
  | _ => none }
def headersTurnsRow : OpenClaim := { program := "ytjfcmoappbfnjaa", sum := "b8247b8483ebc0f45029f0e4d97cbbcaf82a99db0745ea7e64c975d20037bb3b", func := "chatelaine/chatelainelaw08.HeadersTurns", spec := "headersTurns", inPlace := ["maps.clone"], unfollowed := true, recurses := true, apart := false }
def HeadersTurnsSaid : Prop := headersTurnsRow.holds Try.pinned (OpenSpec.ofChange headersTurnsSpec)

/-- ITS FALSE NEIGHBOUR: 'it returns false'. Refute it at one input. -/
def headersTurnsWrong : ChangeSpec := { name := "headersTurns", fn := fun _ => fun
  | [d1, d2, d3, d4] => { results := [.lit (.bool false)], args := [d1, d2, d3, d4] }
  | _ => none }
def HeadersTurnsWrongFalsely : Prop := headersTurnsRow.holds Try.pinned (OpenSpec.ofChange headersTurnsWrong)

/- THE SECOND FORM. 'bulk': how many values and letters a reading holds, each counted each time it is reached (what is shared counts as often as it is met; a slice's spare places count too). A statement '..UptoSaid' is the law's where the arguments, and the package variables that the reading takes, are together of bulk at most 1048576: NARROWER than '..Said'. Prove '..Said' where nothing that the law and all that it calls make is longer than what came in: it says more and counts as full. Else prove '..UptoSaid'. A law counts once. -/
mutual
def uptoBulk {H : Type} : DataW H → Nat
  | .lit (.string bytes) => bytes.length + 1
  | .lit _ => 1
  | .nil => 1
  | .ptr d => uptoBulk d + 1
  | .slice elems spare => uptoBulkAll elems + uptoBulkAll spare + 1
  | .agg parts => uptoBulkAll parts + 1
  | .iface _ d => uptoBulk d + 1
  | .map entries => uptoBulkEntries entries + 1
  | .held _ => 1
def uptoBulkAll {H : Type} : List (DataW H) → Nat
  | [] => 0
  | d :: r => uptoBulk d + uptoBulkAll r
def uptoBulkEntries {H : Type} : List (Lit × DataW H) → Nat
  | [] => 0
  | x :: r => uptoBulkEntry x + uptoBulkEntries r
def uptoBulkEntry {H : Type} : Lit × DataW H → Nat
  | (.string bytes, d) => bytes.length + uptoBulk d + 1
  | (_, d) => uptoBulk d + 1
 end
def uptoSmall : (H : Type) → List (DataW H) → Bool := fun _ ds => decide (uptoBulkAll ds ≤ 1048576)
def OpenSpec.upto (s : _root_.Go.ChangeSpec) : _root_.Go.OpenSpec := { _root_.Go.OpenSpec.ofChange s with cond := some uptoSmall }

/-- 'chatelainelaw08.HeadersWrites', WHERE WHAT IT READS IS OF BULK AT MOST 1048576: true; the input reads as it did. -/
def headersWritesUptoRow : OpenClaim := { program := "ytjfcmoappbfnjaa", sum := "b8247b8483ebc0f45029f0e4d97cbbcaf82a99db0745ea7e64c975d20037bb3b", func := "chatelaine/chatelainelaw08.HeadersWrites", spec := "headersWrites", inPlace := ["maps.clone"], unfollowed := true, recurses := true, apart := false, narrowed := true }
def HeadersWritesUptoSaid : Prop := headersWritesUptoRow.holds Try.pinned (OpenSpec.upto headersWritesSpec)

/-- 'chatelainelaw08.HeadersReads', WHERE WHAT IT READS IS OF BULK AT MOST 1048576: true; the input reads as it did. -/
def headersReadsUptoRow : OpenClaim := { program := "ytjfcmoappbfnjaa", sum := "b8247b8483ebc0f45029f0e4d97cbbcaf82a99db0745ea7e64c975d20037bb3b", func := "chatelaine/chatelainelaw08.HeadersReads", spec := "headersReads", unfollowed := true, recurses := true, apart := false, narrowed := true }
def HeadersReadsUptoSaid : Prop := headersReadsUptoRow.holds Try.pinned (OpenSpec.upto headersReadsSpec)

/-- 'chatelainelaw08.HeadersSealed', WHERE WHAT IT READS IS OF BULK AT MOST 1048576: true; the input reads as it did. -/
def headersSealedUptoRow : OpenClaim := { program := "ytjfcmoappbfnjaa", sum := "b8247b8483ebc0f45029f0e4d97cbbcaf82a99db0745ea7e64c975d20037bb3b", func := "chatelaine/chatelainelaw08.HeadersSealed", spec := "headersSealed", unfollowed := true, recurses := true, apart := false, narrowed := true }
def HeadersSealedUptoSaid : Prop := headersSealedUptoRow.holds Try.pinned (OpenSpec.upto headersSealedSpec)

/-- 'chatelainelaw08.HeadersTurns', WHERE WHAT IT READS IS OF BULK AT MOST 1048576: true; the input reads as it did. -/
def headersTurnsUptoRow : OpenClaim := { program := "ytjfcmoappbfnjaa", sum := "b8247b8483ebc0f45029f0e4d97cbbcaf82a99db0745ea7e64c975d20037bb3b", func := "chatelaine/chatelainelaw08.HeadersTurns", spec := "headersTurns", inPlace := ["maps.clone"], unfollowed := true, recurses := true, apart := false, narrowed := true }
def HeadersTurnsUptoSaid : Prop := headersTurnsUptoRow.holds Try.pinned (OpenSpec.upto headersTurnsSpec)

end Rows
end Go.Proofs.Ytjfcmoappbfnjaa
