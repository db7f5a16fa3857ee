/- The document's answers: Got, May. -/
import Derived.Test.YtljfddeolapeaaaDoorR14
import Derived.Test.YtljfddeolapeaaaDoorR08
import Derived.Test.YtljfddeolapeaaaDoorR07
import Derived.Test.YtljfddeolapeaaaDoorR13
namespace Go.Proofs.YtljfddeolapeaaaDoor
open Go.RowKit
section
variable {w : World} {A : Option Addr} {l : List Oj} {n cap : Nat}
set_option maxRecDepth 100000 in
set_option maxHeartbeats 2000000 in
theorem rmay_bad (n cap : Nat) (A : Option Addr) (v : Ky) (hv : ¬ v.ok) (w : World) :
    Calls Tryd.prog 55 #[.slice A n cap, v.val] w fun e w' => e = .returned (.bool false) ∧ Below w.heap.size w w' := by
  have HB0 := Lib.hid ((Below.refl w.heap.size w).alloc (Nat.le_refl _) (.cells (kc v.k v.o v.c v.l v.r v.v) 33))
  have HK0 := Lib.hid (Blk.new w 33 (kc v.k v.o v.c v.l v.r v.v))
  obtain ⟨c0, c1, c2, c3, c4, c5⟩ := HK0.out.six
  have HV := Lib.hid hv
  clear hv
  go_enter Tryd.func55, Tryd.ntmps55
  go_wp2_with (first
    | (go_at_call 78; refine (Ky.chk_no HV.out ▸ rchk_any v _).mono ?_; rintro e w1 ⟨rfl, b1⟩; have HB1 := Lib.hid (HB0.out.trans (b1.mono HB0.out.size)); have HK1 := Lib.hid (HK0.out.keep b1); clear c0 c1 c2 c3 c4 c5; obtain ⟨c0, c1, c2, c3, c4, c5⟩ := HK1.out.six; clear b1))
  go_ret
  exact ⟨rfl, HB1.out⟩
set_option maxRecDepth 100000 in
set_option maxHeartbeats 2000000 in
theorem rmay_of (n cap : Nat) (A : Option Addr) (v : Ky) (hv : v.of) (w : World) :
    Calls Tryd.prog 55 #[.slice A n cap, v.val] w fun e w' => e = .returned (.bool (decide (v.o < (n : Int)))) ∧ Below w.heap.size w w' := by
  have HB0 := Lib.hid ((Below.refl w.heap.size w).alloc (Nat.le_refl _) (.cells (kc v.k v.o v.c v.l v.r v.v) 33))
  have HK0 := Lib.hid (Blk.new w 33 (kc v.k v.o v.c v.l v.r v.v))
  obtain ⟨c0, c1, c2, c3, c4, c5⟩ := HK0.out.six
  have HV := Lib.hid hv
  clear hv
  go_enter Tryd.func55, Tryd.ntmps55
  go_wp2_with (first
    | (go_at_call 78; refine (Ky.chk_yes HV.out.1 ▸ rchk_any v _).mono ?_; rintro e w1 ⟨rfl, b1⟩; have HB1 := Lib.hid (HB0.out.trans (b1.mono HB0.out.size)); have HK1 := Lib.hid (HK0.out.keep b1); clear c0 c1 c2 c3 c4 c5; obtain ⟨c0, c1, c2, c3, c4, c5⟩ := HK1.out.six; clear b1)
    | (go_at_call 79; refine (rname_yes v _ HV.out).mono ?_; rintro e w2 ⟨rfl, b2⟩; have HB2 := Lib.hid (HB1.out.trans (b2.mono HB1.out.size)); clear b2))
  go_ret
  exact ⟨rfl, HB2.out⟩
set_option maxRecDepth 100000 in
set_option maxHeartbeats 2000000 in
theorem rmay_not (n cap : Nat) (A : Option Addr) (v : Ky) (hv : v.ok) (hf : ¬ v.of) (w : World) :
    Calls Tryd.prog 55 #[.slice A n cap, v.val] w fun e w' => e = .returned (.bool true) ∧ Below w.heap.size w w' := by
  have HB0 := Lib.hid ((Below.refl w.heap.size w).alloc (Nat.le_refl _) (.cells (kc v.k v.o v.c v.l v.r v.v) 33))
  have HK0 := Lib.hid (Blk.new w 33 (kc v.k v.o v.c v.l v.r v.v))
  obtain ⟨c0, c1, c2, c3, c4, c5⟩ := HK0.out.six
  have HV := Lib.hid hv
  have HF := Lib.hid hf
  have dn : decide ((-1 : Int) < (n : Int)) = true := decide_eq_true (by omega)
  clear hv hf
  go_enter Tryd.func55, Tryd.ntmps55
  go_wp2_with (first
    | (go_at_call 78; refine (Ky.chk_yes HV.out ▸ rchk_any v _).mono ?_; rintro e w1 ⟨rfl, b1⟩; have HB1 := Lib.hid (HB0.out.trans (b1.mono HB0.out.size)); have HK1 := Lib.hid (HK0.out.keep b1); clear c0 c1 c2 c3 c4 c5; obtain ⟨c0, c1, c2, c3, c4, c5⟩ := HK1.out.six; clear b1)
    | (go_at_call 79; refine (rname_no v _ HF.out).mono ?_; rintro e w2 ⟨rfl, b2⟩; have HB2 := Lib.hid (HB1.out.trans (b2.mono HB1.out.size)); clear b2))
  go_ret
  exact ⟨rfl, HB2.out⟩
set_option maxRecDepth 8000 in
theorem rmay_y (n cap : Nat) (A : Option Addr) (v : Ky) (hv : v.may n) (w : World) :
    Calls Tryd.prog 55 #[.slice A n cap, v.val] w fun e w' => e = .returned (.bool true) ∧ Below w.heap.size w w' := by
  by_cases hf : v.of
  · have := rmay_of n cap A v hf w
    rwa [show decide (v.o < (n : Int)) = true by simpa using hv.2 hf] at this
  · exact rmay_not n cap A v hv.1 hf w
set_option maxRecDepth 8000 in
theorem rmay_n (n cap : Nat) (A : Option Addr) (v : Ky) (hv : ¬ v.may n) (w : World) :
    Calls Tryd.prog 55 #[.slice A n cap, v.val] w fun e w' => e = .returned (.bool false) ∧ Below w.heap.size w w' := by
  by_cases hk : v.ok
  · by_cases hf : v.of
    · have := rmay_of n cap A v hf w
      rwa [show decide (v.o < (n : Int)) = false by simp; by_cases h : v.o < (n : Int); exact absurd ⟨hk, fun _ => h⟩ hv; omega] at this
    · exact absurd ⟨hk, fun h => absurd h hf⟩ hv
  · exact rmay_bad n cap A v hk w
end
end Go.Proofs.YtljfddeolapeaaaDoor
namespace Go.Proofs.YtljfddeolapeaaaDoor
open Go.RowKit
set_option maxRecDepth 8000 in
theorem built30 : Tryd.prog.built 33 [] = some (kl zk).toArray := by kernel_rfl
section
variable {w : World} {A : Option Addr} {l : List Oj} {n cap : Nat}
theorem RdO.far {g : Nat} {b : Nat} (h : RdO w (some ⟨g, 0, none⟩) l) (hb : b ≠ g) (c : Array Value) : RdO (w.setRow b c) (some ⟨g, 0, none⟩) l := fun i hi => by
  obtain ⟨b', off, e, ho⟩ := h i hi
  injection e with e
  injection e with e1 e2
  subst e1 e2
  exact ⟨_, _, rfl, ho.keep (setRow_other w b _ c (Ne.symm hb))⟩
end
end Go.Proofs.YtljfddeolapeaaaDoor
namespace Go.Proofs.YtljfddeolapeaaaDoor
open Go.RowKit
section
variable {w : World} {A : Option Addr} {l : List Oj} {n cap : Nat}
end
end Go.Proofs.YtljfddeolapeaaaDoor
namespace Go.Proofs.YtljfddeolapeaaaDoor
open Go.RowKit
section
variable {w : World} {base p : Nat} {A : Option Addr} {cap : Nat} {ps : List Nat} {os : List Oj} {kt it pt : TypeId} {S K I V : Nat}
theorem Blk.one {g : Nat} {t : TypeId} {v : Value} (h : Blk w g t #[v]) : w.cell? ⟨g, 0, none⟩ = some v := h.cell 0
end
end Go.Proofs.YtljfddeolapeaaaDoor
