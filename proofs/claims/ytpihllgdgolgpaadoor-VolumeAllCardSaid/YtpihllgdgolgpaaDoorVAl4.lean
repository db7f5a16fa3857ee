/- volume: the law VolumeAll: what holds while it goes over all. -/
import Derived.Test.YtpihllgdgolgpaaDoorVAl3
import Derived.Test.YtpihllgdgolgpaaDoorVW
namespace Go.Proofs.YtpihllgdgolgpaaDoor
open Go.RowKit Go.Shelf
attribute [local go_sem] Oper.semAt_some
set_option maxRecDepth 8000 in
theorem run_nilF (f : Fn) (b c : Array Value) (w : World) : (binOp .eql 25 (.func f b c) .nilFunc).run Tryd.prog w = .ok (.bool false) w := by
  kernel_rfl
attribute [local go_sem] run_nilF
/-- what holds while the law goes over all -/
structure LA {nn : Nat} (w : World) (n : Int) (S : Nat) (xs : List (Ia nn)) (V : World) : Prop where
  p : Blk V w.heap.size 23 #[.int .i64 n]
  q : Blk V (w.heap.size + 1) 23 #[.int .i64 n]
  l : ∃ v, Blk V (w.heap.size + 2) 27 #[v] ∧ V.ownsRow (w.heap.size + 4) 30 3 v xs.length (scs (xs.map fun y => plc nn y.i))
  f : Blk V (w.heap.size + 3) 4 #[.bool (okx xs)]
  below : Below w.heap.size w V
  size : S ≤ V.heap.size
theorem own_rowS {β : Type} {B base : Nat} (v : Value) (k : β → Nat) (f : β → List Value) : OwnFrom B (fun (s : β) W => W.ownsRow base 30 3 v (k s) (f s)) := fun s X Y row hs hg hr => by
  obtain ⟨hl, h | ⟨g, cap, cur, rfl, hb, hc, h⟩⟩ := hs
  · exact ⟨hl, .inl h⟩
  · exact ⟨hl, .inr ⟨g, cap, cur, rfl, hb, own_blk B g _ (fun _ : Unit => cur) () X Y row hc hg hr, h⟩⟩
theorem LA.own {nn : Nat} {w : World} {n : Int} {S : Nat} (hS : w.heap.size ≤ S) : OwnFrom S (fun (xs : List (Ia nn)) V => LA w n S xs V) := fun xs X Y row hs hg hr => by
  obtain ⟨v, h1, h2⟩ := hs.l
  exact ⟨own_blk S _ _ (fun _ : Unit => _) () X Y row hs.p hg hr, own_blk S _ _ (fun _ : Unit => _) () X Y row hs.q hg hr, ⟨v, own_blk S _ _ (fun _ : Unit => _) () X Y row h1 hg hr, own_rowS v (fun _ : Unit => _) (fun _ => _) () X Y row h2 hg hr⟩, own_blk S _ _ (fun _ : Unit => _) () X Y row hs.f hg hr, ownFrom_below (Nat.le_refl _) hS () X Y row hs.below hg hr, Nat.le_trans hs.size hg.size⟩
end Go.Proofs.YtpihllgdgolgpaaDoor
