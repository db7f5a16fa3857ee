import Derived.Test.YtljfddeolapeaaaDoorR18
import Derived.Test.YtljfddeolapeaaaDoorJArgs
/- a row of numbers: words. -/
namespace Go.Proofs.YtljfddeolapeaaaDoor
open Go.RowKit
/-- a row of numbers lies from A on -/
def RdI (w : World) (A : Option Addr) (xs : List Nat) : Prop := ∀ i (h : i < xs.length), ∃ g, A = some ⟨g, 0, none⟩ ∧ w.cell? ⟨g, i, none⟩ = some (.int .i64 (xs[i] : Int))
theorem RdI.below {w w' : World} {A : Option Addr} {xs : List Nat} (h : RdI w A xs) (hb : Below w.heap.size w w') : RdI w' A xs := fun i hi => by
  obtain ⟨g, e, hc⟩ := h i hi
  exact ⟨g, e, (World.cell?_of_block (a := ⟨g, i, none⟩) (hb.block g (cell_lt hc))).trans hc⟩
set_option maxRecDepth 8000 in
theorem rdi_of {w : World} {base : Nat} {t : TypeId} {v : Value} {xs : List Nat} (h : w.ownsRow base t 1 v xs.length (dv xs)) : ∃ A c, v = .slice A xs.length c ∧ RdI w A xs := by
  rcases h.2 with ⟨e, hn⟩ | ⟨g, cap, cur, e, hb, hg, hn, hc, hs, ht⟩
  · exact ⟨none, 0, by rw [e, hn], fun i hi => absurd hi (by omega)⟩
  · refine ⟨_, cap, e, fun i hi => ⟨g, rfl, ?_⟩⟩
    have h1 : (cur.toList.take (xs.length * 1))[i]? = some (.int .i64 (xs[i] : Int)) := by
      rw [ht, dv, List.getElem?_map, List.getElem?_eq_getElem hi]
      rfl
    have h2 : cur[i]? = some (.int .i64 (xs[i] : Int)) := by
      rw [List.getElem?_take, if_pos (by omega)] at h1
      simpa using h1
    exact ((show Blk w g t cur from hg).cell i).trans h2
end Go.Proofs.YtljfddeolapeaaaDoor

/- law 13: vast: 30 calls, of 100 bytes. -/
namespace Go.Proofs.YtljfddeolapeaaaDoor
open Go.RowKit
section
variable {w : World} {A : Option Addr} {cap : Nat} {l : List Ja}
def fewJ (l : List Ja) : Prop := l.length ≤ 30 ∧ ∀ i (h : i < l.length), l[i].m.d.length ≤ 100
set_option maxRecDepth 100000 in
set_option maxHeartbeats 2000000 in
theorem vast_in (hr : RdJ w A l) : Calls Tryd.prog 8 #[.slice A l.length cap] w fun e w' => ((e = .returned (.bool true) ∧ ¬ fewJ l) ∨ (e = .returned (.bool false) ∧ fewJ l)) ∧ Below w.heap.size w w' := by
  have HRW := Lib.hid hr
  clear hr
  by_cases hn : l.length ≤ 30
  · have d0 : decide ((30 : Int) < (l.length : Int)) = false := decide_eq_false (by omega)
    have HN := Lib.hid hn
    clear hn
    go_enter Tryd.func8, Tryd.ntmps8
    go_wp2
    go_loopw [3] (fun i wr => ∃ k : Nat, k ≤ l.length ∧ i = .int .i64 k ∧ Below w.heap.size w wr ∧ ∀ j (h : j < l.length), j < k → l[j].m.d.length ≤ 100) (fun i _ => l.length + 1 - (intOf i).toNat)
    case atStart => exact ⟨0, by omega, rfl, Below.refl _ _, fun j _ h => absurd h (Nat.not_lt_zero _)⟩
    case round =>
      obtain ⟨k, hk, rfl, hb, hpre⟩ := hrel
      have HPRE := Lib.hid hpre
      have HB := Lib.hid hb
      clear hpre hb
      by_cases hlt : k < l.length
      · obtain ⟨b, off, rfl, hx⟩ := HRW.out k hlt
        obtain ⟨x, hxe⟩ : ∃ x, l[k] = x := ⟨_, rfl⟩
        rw [hxe] at hx
        have hx1 := (hx.below HB.out).msg.data
        have hs := st_size x.m.d
        have e0 : decide ((k : Int) < (l.length : Int)) = true := decide_eq_true (by omega)
        have HLT := Lib.hid hlt
        have hn30 := HN.out
        have hwc : IntKind.i64.wrap ((k : Int) + 1) = k + 1 := wrap64 (by omega)
        clear hx
        by_cases hl : x.m.d.length ≤ 100
        · have e1 : decide ((100 : Int) < (x.m.d.length : Int)) = false := decide_eq_false (by omega)
          have HL := Lib.hid (hxe ▸ hl : l[k].m.d.length ≤ 100)
          clear hl hxe
          go_wp2
          go_roundw
          case rel =>
            refine ⟨k + 1, by omega, by go_num, HB.out, fun j h hj => ?_⟩
            by_cases hjk : j = k
            · subst hjk
              exact HL.out
            · exact HPRE.out j h (by omega)
          case measure => simp [intOf]; omega
        · have e1 : decide ((100 : Int) < (x.m.d.length : Int)) = true := decide_eq_true (by omega)
          have HL := Lib.hid (hxe ▸ hl : ¬ l[k].m.d.length ≤ 100)
          clear hl hxe
          go_wp2
          go_ret
          exact ⟨.inl ⟨rfl, fun q => HL.out (q.2 k HLT.out)⟩, HB.out⟩
      · obtain rfl : k = l.length := by omega
        have e0 : decide ((l.length : Int) < (l.length : Int)) = false := decide_eq_false (by omega)
        go_wp2
        go_ret
        exact ⟨.inr ⟨rfl, HN.out, fun i h => HPRE.out i h h⟩, HB.out⟩
  · have d0 : decide ((30 : Int) < (l.length : Int)) = true := decide_eq_true (by omega)
    go_enter Tryd.func8, Tryd.ntmps8
    go_wp2
    go_ret
    exact ⟨.inl ⟨rfl, fun q => hn q.1⟩, Below.refl _ _⟩
set_option maxRecDepth 8000 in
theorem vast_no (hr : RdJ w A l) (h : fewJ l) : Calls Tryd.prog 8 #[.slice A l.length cap] w fun e w' => e = .returned (.bool false) ∧ Below w.heap.size w w' := by
  refine (vast_in hr).mono ?_
  rintro e w' ⟨⟨_, hn⟩ | ⟨he, _⟩, hb⟩
  · exact absurd h hn
  · exact ⟨he, hb⟩
set_option maxRecDepth 8000 in
theorem vast_yes (hr : RdJ w A l) (h : ¬ fewJ l) : Calls Tryd.prog 8 #[.slice A l.length cap] w fun e w' => e = .returned (.bool true) ∧ Below w.heap.size w w' := by
  refine (vast_in hr).mono ?_
  rintro e w' ⟨⟨he, _⟩ | ⟨_, hn⟩, hb⟩
  · exact ⟨he, hb⟩
  · exact absurd hn h
end
end Go.Proofs.YtljfddeolapeaaaDoor
