/- Bytes as a string: over any program. -/
import Derived.Test.YtokbghpddgfnpaaApp
import Derived.Laws.BytesArg
namespace Go.Proofs.Ytokbghpddgfnpaa
open Go.RowKit
/-- the string of bytes -/
def st (l : List UInt8) : ByteArray := ⟨l.toArray⟩
set_option maxRecDepth 8000 in
theorem st_inj {a b : List UInt8} (h : st a = st b) : a = b := by
  have := congrArg (fun s : ByteArray => s.data.toList) h
  simpa [st] using this
set_option maxRecDepth 8000 in
theorem st_toList (a : List UInt8) : (st a).toList = a := by
  unfold st
  simp
set_option maxRecDepth 8000 in
theorem st_beq {a b : List UInt8} (h : a = b) : ((st a).toList == (st b).toList) = true := by subst h; simp
set_option maxRecDepth 8000 in
theorem st_bne {a b : List UInt8} (h : a ≠ b) : ((st a).toList == (st b).toList) = false := by
  rw [st_toList, st_toList, beq_eq_false_iff_ne]
  exact h
set_option maxRecDepth 8000 in
theorem run_str {P : Program} (w : World) {src dst e : TypeId} (hs : P.underlying src = some (.slice e)) (he : P.underlying e = some (.int .u8)) (hd : P.underlying dst = some .string)
    {A : Option Addr} {n c : Nat} {l : List UInt8} (hn : l.length = n) (hr : Rd w A l) : (convert src dst (.slice A n c)).run P w = .ok (.string (st l)) w := by
  cases A with
  | none =>
    have hl : l = [] := by
      cases l with
      | nil => rfl
      | cons x l =>
        obtain ⟨b, off, h, _⟩ := hr 0 (by simp)
        cases h
    subst hl
    exact run_convert_bytes_nil w src e hs he n c dst hd
  | some ad =>
    cases l with
    | nil =>
      simp only [List.length_nil] at hn
      subst hn
      rw [run_convert_bytes_string w src dst e _ 0 c hs he hd, run_bytesToString w ad 0 c [] (by simp [loadCells, loadCellsFrom])]
      rfl
    | cons x l =>
      obtain ⟨b, off, h, _⟩ := hr 0 (by simp)
      injection h with h
      subst h
      have := run_convert_bytes_arg w src e hs he b off n c ((x :: l).map fun y => (y.toNat : Int)) (by rw [List.length_map]; exact hn) (fun i hi => by
        obtain ⟨b', off', h', hc⟩ := hr i (by omega)
        injection h' with h'
        injection h' with h1 h2
        subst h1; subst h2
        rw [hc, List.getD_eq_getElem?_getD, List.getElem?_map, List.getElem?_eq_getElem (by omega)]
        rfl) dst hd
      rw [this]
      congr 2
      unfold strOfNums st
      rw [List.map_map]
      congr 2
      have : ∀ y : UInt8, ((fun n : Int => UInt8.ofNat n.toNat) ∘ fun y : UInt8 => (y.toNat : Int)) y = y := by intro y; simp
      rw [funext this]
      simp
end Go.Proofs.Ytokbghpddgfnpaa
