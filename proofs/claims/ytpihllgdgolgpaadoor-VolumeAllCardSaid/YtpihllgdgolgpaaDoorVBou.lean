/- volume: a place's part's bounds, off a closure. -/
import Derived.Test.YtpihllgdgolgpaaDoorVOf
namespace Go.Proofs.YtpihllgdgolgpaaDoor
open Go.RowKit
attribute [local go_sem] Oper.semAt_some
/-- the bounds of the part that a place is of -/
def bndF : List Pt → Sp → Int × Int
  | [], _ => (0, 0)
  | r :: l, x => if r.k = x.k ∧ r.a = x.a then (r.f, r.t) else bndF l x
set_option maxRecDepth 8000 in
theorem bounds_any (A : Option Addr) (n c : Nat) (w : World) : Calls Tryd.prog 20 #[.slice A n c] w fun e w' => e = .returned (.func (.func 22) #[] #[pv w.heap.size]) ∧ w.alloc (.cells #[.slice A n c] 35) = w' := by
  go_enter Tryd.func20, Tryd.ntmps20
  go_wp2
  go_ret
  exact ⟨rfl, rfl⟩
set_option maxRecDepth 8000 in
set_option maxHeartbeats 4000000 in
theorem bounds1_any (l : List Pt) (n : Nat) (hn : l.length = n) (hl : n ≤ 1000) (g c bx : Nat) (x : Sp) (w : World) (hr : RdP w g l) (hbx : w.cell? ⟨bx, 0, none⟩ = some (.slice (some ⟨g, 0, none⟩) n c)) :
    Calls Tryd.prog 22 #[x.val, pv bx] w fun e w' => e = .returned (.tuple #[.int .i64 (bndF l x).1, .int .i64 (bndF l x).2]) ∧ Below w.heap.size w w' := by
  have hb0 : Below w.heap.size w (w.alloc (.cells x.cs.toArray 30)) := (Below.refl w.heap.size w).alloc (Nat.le_refl _) _
  have hbx' := (hb0.cell (p := ⟨bx, 0, none⟩) (cell_lt hbx)).trans hbx
  have HB := Lib.hid hb0
  have HG := Lib.hid (Blk.new w 30 x.cs.toArray)
  have HR := Lib.hid hr
  have HN := Lib.hid hn
  obtain ⟨kx, ax, tx⟩ := x
  clear hr hn hbx hb0
  go_enter Tryd.func22, Tryd.ntmps22
  go_wp2
  clear hbx'
  go_loopw [9] (fun i wr => ∃ k : Nat, k ≤ n ∧ i = .int .i64 k ∧ Below w.heap.size w wr ∧ Blk wr w.heap.size 30 (Sp.cs ⟨kx, ax, tx⟩).toArray ∧ bndF (l.drop k) ⟨kx, ax, tx⟩ = bndF l ⟨kx, ax, tx⟩) (fun i _ => n + 1 - (intOf i).toNat)
  case atStart => exact ⟨0, by omega, rfl, HB.out, HG.out, rfl⟩
  case round =>
    clear HB HG
    obtain ⟨k, hk, rfl, hb, hg, hp⟩ := hrel
    by_cases hlt : k < n
    · obtain ⟨y, hx⟩ : ∃ x, l[k]? = some x := ⟨_, List.getElem?_eq_getElem (by rw [HN.out]; exact hlt)⟩
      rw [drop_at hx] at hp
      obtain ⟨xk, xa, xf, xt⟩ := y
      obtain ⟨c0, c1, c2, c3⟩ := (HR.out.keep hb).at_ hx
      have i2 : (k : Int) < (n : Int) := by omega
      have HB := Lib.hid hb
      have hg2 := hg.alloc (.cells (Pt.cs ⟨xk, xa, xf, xt⟩).toArray 40)
      have HG := Lib.hid hg
      have HX := Lib.hid hx
      have HP := Lib.hid hp
      obtain ⟨z0, z1, z2⟩ := hg2.three
      clear hb hg hx hp hg2
      by_cases h1 : xk = kx
      · subst h1
        by_cases h2 : xa = ax
        · subst h2
          go_wp2
          go_region
          go_wp2
          go_ret2
          have := HP.out
          rw [bndF, if_pos ⟨rfl, rfl⟩] at this
          exact ⟨by rw [← this]; rfl, HB.out.drew.alloc HB.out.size _⟩
        · have d2 : (xa == ax) = false := by simpa using h2
          go_wp2
          go_roundw
          case rel =>
            refine ⟨k + 1, by omega, by go_num, HB.out.alloc HB.out.size _, HG.out.alloc _, ?_⟩
            have := HP.out
            rw [bndF, if_neg (fun h => h2 h.2)] at this
            exact this
          case measure => simp [intOf]; omega
      · have d2 : (xk == kx) = false := by simpa using h1
        go_wp2
        go_roundw
        case rel =>
          refine ⟨k + 1, by omega, by go_num, HB.out.alloc HB.out.size _, HG.out.alloc _, ?_⟩
          have := HP.out
          rw [bndF, if_neg (fun h => h1 h.1)] at this
          exact this
        case measure => simp [intOf]; omega
    · obtain rfl : k = n := by omega
      have hp' := hp
      rw [List.drop_of_length_le (by rw [HN.out]; exact Nat.le_refl _)] at hp'
      have HP := Lib.hid hp'
      have HB := Lib.hid hb
      clear hp hp' hb hg
      go_wp2
      go_ret2
      exact ⟨by rw [← HP.out]; rfl, HB.out⟩
end Go.Proofs.YtpihllgdgolgpaaDoor
