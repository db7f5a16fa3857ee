/- disk: the walks of part, kept, maps.Clone, slices.Clone. -/
import Derived.Test.YtokbghpddgfnpaaBuild
import Derived.Test.YtokbghpddgfnpaaFlush
import Derived.Laws.Externs
import Derived.WalkSpells
namespace Go.Proofs.Ytokbghpddgfnpaa
open Go.RowKit
set_option maxRecDepth 100000 in
set_option maxHeartbeats 800000 in
theorem part_at (g o len cap n : Nat) (w : World) (hc : (n + 1) * 512 ≤ cap) (hn : n ≤ 4096) :
    Calls Try.prog 59 #[.slice (some ⟨g, o, none⟩) len cap, .int .i64 (n : Int)] w fun e w' => e = .returned (.slice (some ⟨g, o + n * 512, none⟩) 512 512) ∧ w = w' := by
  have e1 : ((n : Int) + 1) * 512 = (((n + 1) * 512 : Nat) : Int) := by omega
  have e0 : (n : Int) * 512 = ((n * 512 : Nat) : Int) := by omega
  obtain ⟨a, ha⟩ : ∃ a, a = n * 512 := ⟨_, rfl⟩
  obtain ⟨b, hb⟩ : ∃ b, b = (n + 1) * 512 := ⟨_, rfl⟩
  have HA := Lib.hid ha
  have HB := Lib.hid hb
  have hab : b = a + 512 := by omega
  have HAB := Lib.hid hab
  rw [← ha] at e0 ⊢
  rw [← hb] at e1
  have w1 : IntKind.i64.wrap ((n : Int) * 512) = (a : Int) := by rw [e0]; exact IntWalk.i64_in _ (by omega)
  have w2 : IntKind.i64.wrap (((n : Int) + 1) * 512) = (b : Int) := by rw [e1]; exact IntWalk.i64_in _ (by omega)
  have w3 : IntKind.i64.wrap ((n : Int) + 1) = (n : Int) + 1 := IntWalk.i64_in _ (by omega)
  have f1 : (0 : Int) ≤ (a : Int) := by omega
  have f2 : (a : Int) ≤ (b : Int) := by omega
  have f3 : (0 : Int) ≤ (b : Int) := by omega
  have f4 : (b : Int) ≤ (cap : Int) := by omega
  have f5 : ¬ b = a := by omega
  have f6 : (b : Int) ≤ 3000000 := by omega
  have f7 : (a : Int) ≤ 3000000 := by omega
  have f8 : b - a = 512 := by omega
  clear ha hb hab hc hn
  go_enter Try.func59, Try.ntmps59
  go_wp2
  go_ret
  exact ⟨rfl, rfl⟩
set_option maxRecDepth 8000 in
theorem run_equalIn_map_nil {P : Program} (w : World) (d : Nat) (t k e : TypeId) (p : Option Nat) (h : P.underlying t = some (.map k e)) : (Op.equalIn (d + 1) t (.map p) (.map none)).run P w = .ok p.isNone w := by
  cases p <;> simp [Op.equalIn, run_underlying h]
set_option maxRecDepth 8000 in
theorem run_eql_map_nil {P : Program} (w : World) (t k e : TypeId) (p : Option Nat) (h : P.underlying t = some (.map k e)) : (binOp .eql t (.map p) (.map none)).run P w = .ok (.bool p.isNone) w := by
  simp only [binOp]
  simp [show Op.equal t (.map p) (.map none) = Op.equalIn (9999 + 1) t (.map p) (.map none) from rfl, run_equalIn_map_nil w 9999 t k e p h]
set_option maxRecDepth 8000 in
theorem run_clone_i {P : Program} (w : World) {r : Nat} {es : Array MapEntry} {clock : Nat} (t : TypeId) (hb : w.heap[r]? = some (.map es clock)) :
    (Extern.MapsClone.clone #[.iface t (.map (some r))]).run P w = .ok (.iface t (.map (some w.heap.size))) (w.alloc (.map es clock)) := by
  have e : Extern.MapsClone.clone #[.iface t (.map (some r))] = (getObj r >>= fun o => match o with
      | .map entries clock => (newObj (.map entries clock) >>= fun n => pure (.iface t (.map (some n))))
      | _ => stuck "maps.clone: a map expected") := rfl
  rw [e]
  simp [MapKept.run_getObj_map hb, Result.andThen, go_sem]
set_option maxRecDepth 8000 in
theorem run_assert_map {P : Program} (w : World) (t xT k e : TypeId) (v : Value) (h : P.underlying t = some (.map k e)) : (Instr.typeAssert (.iface t v) xT t false).run P w = .ok v w := by
  simp [Instr.typeAssert, run_underlying h, go_sem, Result.andThen]
set_option maxRecDepth 100000 in
set_option maxHeartbeats 800000 in
theorem clone73 (b : Nat) (es : Array MapEntry) (clock : Nat) (w : World) (hb : w.heap[b]? = some (.map es clock)) :
    Calls Try.prog 49 #[.map (some b)] w fun e w' => e = .returned (.map (some w.heap.size)) ∧ w.alloc (.map es clock) = w' := by
  have hq := fun w => run_eql_map_nil (P := Try.prog) w 81 _ _ (some b) Try.underlying81
  go_enter Try.func49, Try.ntmps49
  go_wp2
  rw [run_callFunc_extern Try.func62 (by kernel_rfl) (by kernel_rfl) (by kernel_rfl) (e := Extern.MapsClone.clone) (by kernel_rfl), run_clone_i w _ hb]
  simp only [Result.andThen]
  rw [Oper.upon_value]
  go_wp2
  rw [run_assert_map _ 81 _ _ _ _ Try.underlying81]
  simp only [Result.andThen]
  rw [Oper.upon_value]
  go_wp2
  go_ret
  exact ⟨rfl, rfl⟩
set_option maxRecDepth 100000 in
set_option maxHeartbeats 800000 in
theorem clone75 (b : Nat) (es : Array MapEntry) (clock : Nat) (w : World) (hb : w.heap[b]? = some (.map es clock)) :
    Calls Try.prog 51 #[.map (some b)] w fun e w' => e = .returned (.map (some w.heap.size)) ∧ w.alloc (.map es clock) = w' := by
  have hq := fun w => run_eql_map_nil (P := Try.prog) w 83 _ _ (some b) Try.underlying83
  go_enter Try.func51, Try.ntmps51
  go_wp2
  rw [run_callFunc_extern Try.func62 (by kernel_rfl) (by kernel_rfl) (by kernel_rfl) (e := Extern.MapsClone.clone) (by kernel_rfl), run_clone_i w _ hb]
  simp only [Result.andThen]
  rw [Oper.upon_value]
  go_wp2
  rw [run_assert_map _ 83 _ _ _ _ Try.underlying83]
  simp only [Result.andThen]
  rw [Oper.upon_value]
  go_wp2
  go_ret
  exact ⟨rfl, rfl⟩
set_option maxRecDepth 100000 in
set_option maxHeartbeats 800000 in
theorem clone75_nil (w : World) : Calls Try.prog 51 #[.map none] w fun e w' => e = .returned (.map none) ∧ w = w' := by
  have hq := fun w => run_eql_map_nil (P := Try.prog) w 83 _ _ none Try.underlying83
  go_enter Try.func51, Try.ntmps51
  go_wp2
  go_ret
  exact ⟨rfl, rfl⟩
set_option maxRecDepth 8000 in
theorem flat_len (ws : List (Nat × List UInt8)) (hw : ∀ x ∈ ws, x.2.length = 512) : (ws.flatMap wc).length = ws.length * 513 := by
  induction ws with
  | nil => rfl
  | cons y ws ih => rw [List.flatMap_cons, List.length_append, wc_length y (hw y (by simp)), ih (fun x hx => hw x (by simp [hx])), List.length_cons]; omega
set_option maxRecDepth 8000 in
theorem flat_one (ws : List (Nat × List UInt8)) : ∀ u ∈ ws.flatMap wc, u.oneCell' = true := by
  intro u hu
  obtain ⟨x, _, hx⟩ := List.mem_flatMap.1 hu
  exact wc_one x u hx
set_option maxRecDepth 100000 in
set_option maxHeartbeats 800000 in
theorem clone58_nil (w : World) : Calls Try.prog 50 #[.slice none 0 0] w fun e w' => e = .returned (.slice none 0 0) ∧ w = w' := by
  have hq := fun w : World => Lib.run_eql_slice_nil (P := Try.prog) w 82 _ none 0 0 0 0 Try.underlying82
  go_enter Try.func50, Try.ntmps50
  go_wp2
  go_ret
  exact ⟨rfl, rfl⟩
set_option maxRecDepth 100000 in
set_option maxHeartbeats 800000 in
theorem clone58_some (w : World) (base g n cap : Nat) (ws : List (Nat × List UInt8)) (hn : n ≤ 1000000) (hown : w.ownsRow base 89 513 (.slice (some ⟨g, 0, none⟩) n cap) n (ws.flatMap wc)) :
    Calls Try.prog 50 #[.slice (some ⟨g, 0, none⟩) n cap] w fun e w' => ∃ v, e = .returned v ∧ w'.ownsRow w.heap.size 89 513 v n (ws.flatMap wc) ∧ Below w.heap.size w w' := by
  have hq := fun w : World => Lib.run_eql_slice_nil (P := Try.prog) w 82 _ (some ⟨g, 0, none⟩) n cap 0 0 Try.underlying82
  obtain ⟨i0, hi, hz0, hz1, hz2⟩ := info_parts info84
  have HO := Lib.hid (hown.alloc (.cells #[] 89))
  have HL := Lib.hid hown.1
  clear hown
  go_enter Try.func50, Try.ntmps50
  go_wp2_with (at_builtin; refine wpList_append_own _ rfl (.tmp 5) (.tmp 6) _ rfl w.heap.size 89 i0 _ 513 520 Try.underlying82 hi hz0 hz1 hz2 (by show (wc (0, zs)).toArray.size = 513; rw [List.size_toArray, wc_length _ zs_length]) (by omega) (.slice (some ⟨w.heap.size, 0, none⟩) 0 0) 0 [] rfl (World.ownsRow_made w #[] 0 (Nat.le_refl _) (by simp [maxLen]) rfl) ⟨g, 0, none⟩ n cap (ws.flatMap wc) rfl HL.out (HO.out.cells (g := g) rfl) (flat_one ws) (by simp only [maxLen]; omega) (by omega) (by simp) ?_; intro v' w1 hown1 hg1 hnil1)
  simp only [Nat.zero_add, List.nil_append] at hown1
  have HO1 := Lib.hid hown1
  have HB1 := Lib.hid (((Below.refl w.heap.size w).alloc (Nat.le_refl _) (.cells #[] 89)).grown hg1 (by simp) (fun k hk => by simp [Value.ownBlock] at hk; omega))
  clear hown1 hg1 hnil1 HO
  go_wp2
  go_ret
  exact ⟨v', rfl, HO1.out, HB1.out⟩
/-- the cells from A on read as these bools -/
def RdB (w : World) (A : Option Addr) (l : List Bool) : Prop := ∀ j (h : j < l.length), ∃ b off, A = some ⟨b, off, none⟩ ∧ w.cell? ⟨b, off + j, none⟩ = some (.bool l[j])
theorem RdB.below {w w' : World} {A : Option Addr} {l : List Bool} (h : RdB w A l) (hb : Below w.heap.size w w') : RdB w' A l := fun j hj => by
  obtain ⟨b, off, e, hc⟩ := h j hj
  exact ⟨b, off, e, (hb.cell (cell_lt hc)).trans hc⟩
/-- a crash, as it is told by plain data -/
structure Cr where
  keep : List Bool
  torn : Int
  bytes : Int
/-- its value -/
def Cr.val (c : Cr) (A : Option Addr) (cap : Nat) : Value := .agg #[.slice A c.keep.length cap, .int .i64 c.torn, .int .i64 c.bytes]
/-- how many bytes are kept of the write of that number -/
def Cr.kept (c : Cr) (i : Nat) : Int := if (i : Int) = c.torn then c.bytes else if c.keep[i]? = some true then 512 else 0
set_option maxRecDepth 100000 in
set_option maxHeartbeats 800000 in
theorem kept_at (w : World) (c : Cr) (A : Option Addr) (cap : Nat) (hr : RdB w A c.keep) (i : Nat) (hi : i ≤ 1000000) :
    Calls Try.prog 57 #[c.val A cap, .int .i64 (i : Int)] w fun e w' => e = .returned (.int .i64 (c.kept i)) ∧ Below w.heap.size w w' := by
  have bl : Below w.heap.size w (w.alloc (.cells #[.slice A c.keep.length cap, .int .i64 c.torn, .int .i64 c.bytes] 26)) := (Below.refl _ w).alloc (Nat.le_refl _) _
  unfold Cr.val
  by_cases ht : (i : Int) = c.torn
  · have h1 : ((i : Int) == c.torn) = true := beq_iff_eq.2 ht
    have HR := Lib.hid (show c.kept i = c.bytes by unfold Cr.kept; rw [if_pos ht])
    have BL := Lib.hid bl
    clear ht bl hr
    go_enter Try.func57, Try.ntmps57
    go_wp2
    go_ret
    exact ⟨by rw [HR.out]; rfl, BL.out⟩
  · have h1 : ((i : Int) == c.torn) = false := beq_eq_false_iff_ne.2 ht
    by_cases hl : i < c.keep.length
    · obtain ⟨b, off, rfl, hc⟩ := hr i hl
      have hc2 := (bl.cell (cell_lt hc)).trans hc
      have h2 : decide (i < c.keep.length) = true := by simpa using hl
      have i1 : (0 : Int) ≤ (i : Int) := by omega
      have i2 : (i : Int) < (c.keep.length : Int) := by omega
      have HR := Lib.hid (show c.kept i = if c.keep[i] = true then 512 else 0 by unfold Cr.kept; rw [if_neg ht, List.getElem?_eq_getElem hl]; simp)
      have BL := Lib.hid bl
      generalize c.keep[i] = u at hc2 HR
      clear ht bl hr hl hc
      cases u
      all_goals
        go_enter Try.func57, Try.ntmps57
        go_wp2
        go_ret
        exact ⟨by rw [HR.out]; rfl, BL.out⟩
    · have h2 : decide (i < c.keep.length) = false := by simpa using hl
      have HR := Lib.hid (show c.kept i = 0 by unfold Cr.kept; rw [if_neg ht, List.getElem?_eq_none (by omega)]; simp)
      have BL := Lib.hid bl
      clear ht bl hr hl
      go_enter Try.func57, Try.ntmps57
      go_wp2
      go_ret
      exact ⟨by rw [HR.out]; rfl, BL.out⟩
end Go.Proofs.Ytokbghpddgfnpaa
