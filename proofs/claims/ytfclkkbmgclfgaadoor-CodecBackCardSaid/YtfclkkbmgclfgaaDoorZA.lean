/- codec: a list that is gone through, written or read: words; next, pass. -/
import Derived.Test.YtfclkkbmgclfgaaDoorZG
import Derived.Test.YtfclkkbmgclfgaaDoorZL
import Derived.Test.YtfclkkbmgclfgaaDoorZT
import Derived.Deep.RegionLaw
import Derived.Laws.CopyOwn
import Derived.Laws.CopyRow
import Derived.WalkLawsBesides
import Derived.Deep.MidRow
namespace Go.Proofs.YtfclkkbmgclfgaaDoor
open Go.RowKit
/-- cells with bytes laid over them from off on -/
def spl (cur : List Value) (off : Nat) (l : List UInt8) : List Value := cur.take off ++ bv l ++ cur.drop (off + l.length)
set_option maxRecDepth 8000 in
theorem spl_length (cur : List Value) (off : Nat) (l : List UInt8) (h : off + l.length ≤ cur.length) : (spl cur off l).length = cur.length := by
  simp [spl, bv_length]
  omega
section
variable {P : Program} {w w' : World} {b : Nat} {t : TypeId}
theorem setRow_fr (w : World) (b : Nat) (c : Array Value) : Fr (fun k => k = b) w (w.setRow b c) := ⟨rfl, rfl, rfl, by simp [World.setRow], fun k _ hk => setRow_other w b k c hk⟩
set_option maxRecDepth 8000 in
/-- a copy of bytes into a block that is known whole -/
theorem run_copy_spl {dT sT ty e : TypeId} (hu : P.underlying dT = some (.slice e)) (hs : (P.info? e).map (·.size) = some 1) (off n dcap : Nat) (A : Option Addr) (m scap : Nat) (cur : List Value) (l : List UInt8)
    (hg : Blk w b t cur.toArray) (hn : l.length = Nat.min m n) (hsrc : Rd w A l) (hfit : off + l.length ≤ cur.length) :
    ∃ w', (Builtin.copy_ #[dT, sT] ty #[.slice (some ⟨b, off, none⟩) n dcap, .slice A m scap]).run P w = .ok (goInt l.length) w' ∧ Blk w' b t (spl cur off l).toArray ∧ Fr (fun k => k = b) w w' := by
  cases l with
  | nil =>
    refine ⟨w, ?_, ?_, Fr.refl _ _⟩
    · exact run_copy_none (P := P) w dT sT ty e _ _ n dcap m scap hu hs (by simpa using hn.symm)
    · simpa [spl, bv] using hg
  | cons x l =>
    obtain ⟨ab, ao, rfl, _⟩ := hsrc 0 (by simp)
    have hr := run_copy_row P w dT sT ty e b off n dcap ⟨ab, ao, none⟩ m scap _ t (bv (x :: l)) hu hs hg (by rw [bv_length]; exact hn) ?_ (by rw [bv_length]; simpa using hfit) (bv_one _)
    rw [bv_length] at hr
    refine ⟨_, hr, ?_, setRow_fr _ _ _⟩
    rotate_left
    · intro j v hv
      rw [bv_get] at hv
      cases hl : (x :: l)[j]? with
      | none => rw [hl] at hv; cases hv
      | some y =>
        obtain ⟨hj, rfl⟩ := List.getElem?_eq_some_iff.1 hl
        obtain ⟨b', o', e, hc⟩ := hsrc j hj
        injection e with e
        injection e with e1 e2
        subst e1; subst e2
        rw [Addr.add_mid, hc, ← hv, hl]
        rfl
    · exact setRow_heap w b _ _ t (0, 0) hg
set_option maxRecDepth 8000 in
theorem wpList_copy_spl {ops : Array Oper} {rest : List Oper} {o : Oper} {a : Act} {Q : Exit → Act → World → Prop} (hgd : o.guard = none) (d s : Operand) {dT sT e : TypeId}
    (ho : o.op = .call { callee := .builtin .copy, args := #[d, s], argTypes := #[dT, sT] }) (hu : P.underlying dT = some (.slice e)) (hs : (P.info? e).map (·.size) = some 1) (b off n dcap : Nat) (A : Option Addr) (m scap : Nat)
    (hd : a.eval d = .slice (some ⟨b, off, none⟩) n dcap) (hs' : a.eval s = .slice A m scap) (cur : List Value) (l : List UInt8)
    (hg : Blk w b t cur.toArray) (hn : l.length = Nat.min m n) (hsrc : Rd w A l) (hfit : off + l.length ≤ cur.length)
    (h : ∀ w', Blk w' b t (spl cur off l).toArray → Fr (fun k => k = b) w w' → wpList P ops Q rest (a.put o.dst (goInt l.length)) w') : wpList P ops Q (o :: rest) a w := by
  refine wpList_plain hgd fun K hK => ?_
  obtain ⟨w', hrun, h1, h2⟩ := run_copy_spl (P := P) (w := w) (ty := o.type) (sT := sT) hu hs off n dcap A m scap cur l hg hn hsrc hfit
  unfold Oper.wp
  simp [execOp, ho, resolve, invoke, builtin, hd, hs', hrun, Result.andThen]
  exact hK _ _ (h w' h1 h2)
end
/-- what is left behind so many -/
abbrev cutA (A : Option Addr) (c k : Nat) : Option Addr := if c = k then A else A.map (·.add k)
set_option maxRecDepth 8000 in
set_option maxHeartbeats 400000 in
theorem next_ok (g : Nat) (A : Option Addr) (n c k : Nat) (w : World) (hc0 : w.cell? ⟨g, 0, none⟩ = some (.slice A n c)) (hf : w.frozen? ⟨g, 0, none⟩ = false) (hk : k ≤ n) (hc : n ≤ c) :
    Calls Tryd.prog 92 #[.pointer (some ⟨g, 0, none⟩), .int .i64 (k : Int)] w fun e w' => e = .returned (.slice A k c) ∧ w.setCell ⟨g, 0, none⟩ (.slice (cutA A c k) (n - k) (c - k)) = w' := by
  have h1 : ¬ ((n : Int) < (k : Int)) := by omega
  have h2 : (0 : Int) ≤ (k : Int) := by omega
  have h3 : (k : Int) ≤ (c : Int) := by omega
  have h4 : (k : Int) ≤ (n : Int) := by omega
  have h5 : (n : Int) ≤ (c : Int) := by omega
  go_enter Tryd.func92, Tryd.ntmps92
  go_wp2
  all_goals (go_ret; exact ⟨rfl, by simp_all [cutA]⟩)
set_option maxRecDepth 8000 in
set_option maxHeartbeats 400000 in
theorem next_no (g : Nat) (A : Option Addr) (n c k : Nat) (w : World) (hc0 : w.cell? ⟨g, 0, none⟩ = some (.slice A n c)) (hk : n < k) :
    Calls Tryd.prog 92 #[.pointer (some ⟨g, 0, none⟩), .int .i64 (k : Int)] w fun e w' => e = .panicked [{ v := .iface 38 (.int .i64 151), recovered := false }] ∧ w = w' := by
  have h1 : ((n : Int) < (k : Int)) := by omega
  go_enter Tryd.func92, Tryd.ntmps92
  go_wp2
  exact ⟨rfl, rfl, rfl⟩
end Go.Proofs.YtfclkkbmgclfgaaDoor
namespace Go.Proofs.YtfclkkbmgclfgaaDoor
open Go.RowKit
/-- a panic with an error's number -/
abbrev erc (n : Int) : List PanicEntry := [{ v := .iface 38 (.int .i64 n), recovered := false }]
/-- a writer at g has written these of n bytes into block B -/
structure WrAt (w : World) (g B : Nat) (t : TypeId) (n : Nat) (d : List UInt8) : Prop where
  at_ : ∃ A, Blk w g 58 #[.slice A (n - d.length) (n - d.length)] ∧ (d.length < n → A = some ⟨B, d.length, none⟩)
  len : d.length ≤ n
  blk : Blk w B t (bv (d ++ List.replicate (n - d.length) 0)).toArray
  ne : g ≠ B
/-- a reader at g has these bytes left, which lie in block s -/
structure RdAt (w : World) (g s : Nat) (l : List UInt8) : Prop where
  at_ : ∃ A c, Blk w g 63 #[.slice A l.length c] ∧ l.length ≤ c ∧ Rd w A l ∧ (∀ a, A = some a → 0 < l.length → a.block = s)
  ne : g ≠ s
  lts : s < w.heap.size
section
variable {w w' : World} {g B s : Nat} {t : TypeId} {n : Nat} {d l : List UInt8}
theorem WrAt.lt (h : WrAt w g B t n d) : g < w.heap.size := let ⟨_, h, _⟩ := h.at_; h.lt
theorem WrAt.ltB (h : WrAt w g B t n d) : B < w.heap.size := h.blk.lt
theorem WrAt.keep (h : WrAt w g B t n d) (hg : w'.heap[g]? = w.heap[g]?) (hB : w'.heap[B]? = w.heap[B]?) : WrAt w' g B t n d :=
  let ⟨A, h1, h2⟩ := h.at_
  ⟨⟨A, hg.trans h1, h2⟩, h.len, hB.trans h.blk, h.ne⟩
theorem WrAt.below (h : WrAt w g B t n d) (hb : Below w.heap.size w w') : WrAt w' g B t n d := h.keep (hb.block g h.lt) (hb.block B h.ltB)
theorem WrAt.fr {S : Nat → Prop} (h : WrAt w g B t n d) (hb : Fr S w w') (h1 : ¬ S g) (h2 : ¬ S B) : WrAt w' g B t n d := h.keep (hb.block g h.lt h1) (hb.block B h.ltB h2)
theorem RdAt.lt (h : RdAt w g s l) : g < w.heap.size := let ⟨_, _, h, _⟩ := h.at_; h.lt
set_option maxRecDepth 8000 in
theorem Rd.blk_lt {A : Option Addr} (h : Rd w A l) (hl : 0 < l.length) : ∃ a, A = some a ∧ a.block < w.heap.size := by
  obtain ⟨b, off, e, hc⟩ := h 0 hl
  exact ⟨_, e, cell_lt (p := ⟨b, off + 0, none⟩) hc⟩
set_option maxRecDepth 8000 in
theorem Rd.fr {S : Nat → Prop} {A : Option Addr} (h : Rd w A l) (hb : Fr S w w') (hn : ∀ a, A = some a → 0 < l.length → ¬ S a.block) : Rd w' A l := by
  intro j hj
  obtain ⟨b, off, e, hc⟩ := h j hj
  exact ⟨b, off, e, (hb.cell (p := ⟨b, off + j, none⟩) (cell_lt hc) (hn ⟨b, off, none⟩ e (by omega))).trans hc⟩
theorem RdAt.below (h : RdAt w g s l) (hb : Below w.heap.size w w') : RdAt w' g s l :=
  let ⟨A, c, h1, h2, h3, h4⟩ := h.at_
  ⟨⟨A, c, h1.keep hb, h2, h3.below hb, h4⟩, h.ne, Nat.lt_of_lt_of_le h.lts hb.size⟩
theorem RdAt.fr {S : Nat → Prop} (h : RdAt w g s l) (hb : Fr S w w') (h1 : ¬ S g) (h2 : ¬ S s) : RdAt w' g s l :=
  let ⟨A, c, k1, k2, k3, k4⟩ := h.at_
  ⟨⟨A, c, (hb.block g h.lt h1).trans k1, k2, k3.fr hb (fun a e h0 => by rw [k4 a e h0]; exact h2), k4⟩, h.ne, Nat.lt_of_lt_of_le h.lts hb.size⟩
end
set_option maxRecDepth 8000 in
theorem size8b : (Tryd.prog.info? 5).map (·.size) = some 1 := by kernel_rfl
set_option maxRecDepth 8000 in
theorem rep_cut (n : Nat) (d k : List UInt8) : spl (bv (d ++ List.replicate (n - d.length) 0)) d.length k = bv ((d ++ k) ++ List.replicate (n - (d ++ k).length) 0) := by
  unfold spl
  rw [bv_append, List.take_left' (bv_length d), List.drop_append, bv_length, List.drop_of_length_le (by rw [bv_length]; omega), bv_append, bv_append]
  simp only [List.nil_append, List.length_append]
  rw [show d.length + k.length - d.length = k.length by omega]
  congr 1
  simp only [bv, List.map_replicate, List.drop_replicate]
  congr 1
  omega
set_option maxRecDepth 8000 in
set_option maxHeartbeats 400000 in
theorem wpass (g B : Nat) (t : TypeId) (n : Nat) (d k : List UInt8) (A : Option Addr) (m c : Nat) (w : World) (hW : WrAt w g B t n d) (hm : k.length = m) (h0 : 0 < m) (hr : Rd w A k) (hfit : d.length + m ≤ n) (hA : ∀ a, A = some a → a.block ≠ g) :
    Calls Tryd.prog 91 #[.pointer (some ⟨g, 0, none⟩), .slice A m c] w fun e w' => e = .returned (.tuple #[]) ∧ WrAt w' g B t n (d ++ k) ∧ Fr (fun i => i = g ∨ i = B) w w' := by
  obtain ⟨A', hb, hA'⟩ := hW.at_
  obtain rfl := hA' (by omega)
  have hc0 := hb.cell 0
  simp only [List.getElem?_toArray, List.getElem?_cons_zero] at hc0
  have hf := hb.frozen 0
  have HB := Lib.hid (show ∀ u, Blk (w.setCell ⟨g, 0, none⟩ u) B t (bv (d ++ List.replicate (n - d.length) 0)).toArray ∧ Blk (w.setCell ⟨g, 0, none⟩ u) g 58 #[u] from fun u => ⟨hW.blk.far (fun e => hW.ne e.symm) u, hb.set_ 0 u⟩)
  have HR := Lib.hid (show ∀ u, Rd (w.setCell ⟨g, 0, none⟩ u) A k from fun u => hr.fr ((Fr.refl (fun i => i = g) w).setCell (p := ⟨g, 0, none⟩) (fun _ => rfl) u) (fun a e _ => hA a e))
  have HF := Lib.hid (show ∀ u, Fr (fun i => i = g) w (w.setCell ⟨g, 0, none⟩ u) from fun u => (Fr.refl (fun i => i = g) w).setCell (p := ⟨g, 0, none⟩) (fun _ => rfl) u)
  have HN := Lib.hid hW.ne
  have HM := Lib.hid hm
  have HL := Lib.hid (show d.length + m ≤ n from hfit)
  clear hW hb hr hA hA' hm
  go_enter Tryd.func91, Tryd.ntmps91
  go_wp2_with (first
    | (go_at_call 92; refine (next_ok g _ _ _ m _ hc0 hf (by omega) (Nat.le_refl _)).mono ?_; rintro e w1 ⟨rfl, hw1⟩; have H1 := Lib.hid (hw1 ▸ HB.out _); have H2 := Lib.hid (hw1 ▸ HR.out _); have H3 := Lib.hid (hw1 ▸ HF.out _); clear hw1)
    | (refine wpList_copy_spl (t := t) rfl (.tmp 9) (.tmp 10) rfl Tryd.underlying31 size8b B d.length m _ A m c rfl rfl (bv (d ++ List.replicate (n - d.length) 0)) k H1.out.1 (by rw [HM.out]; exact (Nat.min_self m).symm) H2.out (by rw [HM.out, bv_length, List.length_append, List.length_replicate]; omega) ?_; intro w2 hb2 hf2))
  go_end0
  rw [rep_cut] at hb2
  have hl : (d ++ k).length = d.length + m := by rw [List.length_append, HM.out]
  have hw2 := (hf2.block g (H1.out.2.lt) HN.out).trans H1.out.2
  refine ⟨rfl, ⟨⟨_, by rw [hl, Nat.sub_add_eq]; exact hw2, fun h => ?_⟩, by omega, hb2, HN.out⟩, (H3.out.mono (fun _ _ h => .inl h)).then_ hf2 (fun _ _ h => .inr h)⟩
  rw [hl] at h ⊢
  rw [cutA, if_neg (by omega)]
  exact congrArg some (add_flat B d.length m)
set_option maxRecDepth 8000 in
theorem slice_cell {A : Option Addr} {n c : Nat} (g : Nat) (t : TypeId) (w : World) (h : Blk w g t #[.slice A n c]) : w.cell? ⟨g, 0, none⟩ = some (.slice A n c) := by
  have := h.cell 0
  simpa using this
set_option maxRecDepth 8000 in
set_option maxHeartbeats 400000 in
theorem rpass (g s D : Nat) (td : TypeId) (l : List UInt8) (cur : List Value) (off m c : Nat) (w : World) (hW : RdAt w g s l) (hD : Blk w D td cur.toArray) (hm : m ≤ l.length) (hfit : off + m ≤ cur.length) (hg : D ≠ g) (hs : D ≠ s) :
    Calls Tryd.prog 93 #[.pointer (some ⟨g, 0, none⟩), .slice (some ⟨D, off, none⟩) m c] w fun e w' => e = .returned (.tuple #[]) ∧ RdAt w' g s (l.drop m) ∧ Blk w' D td (spl cur off (l.take m)).toArray ∧ Fr (fun i => i = g ∨ i = D) w w' := by
  obtain ⟨A, c', hb, hcl, hr, hA⟩ := hW.at_
  have hc0 := slice_cell g _ w hb
  have hf := hb.frozen 0
  have HF := Lib.hid (show ∀ u, Fr (fun i => i = g) w (w.setCell ⟨g, 0, none⟩ u) from fun u => (Fr.refl (fun i => i = g) w).setCell (p := ⟨g, 0, none⟩) (fun _ => rfl) u)
  have HB := Lib.hid (show ∀ u, Blk (w.setCell ⟨g, 0, none⟩ u) D td cur.toArray ∧ Blk (w.setCell ⟨g, 0, none⟩ u) g 63 #[u] from fun u => ⟨hD.far hg u, hb.set_ 0 u⟩)
  have HR := Lib.hid (show ∀ u, Rd (w.setCell ⟨g, 0, none⟩ u) A l from fun u => hr.fr (HF.out u) (fun a e h0 => by rw [hA a e h0]; exact fun h => hW.ne h.symm))
  have HS := Lib.hid (fun (a : Addr) (e : A = some a) (h0 : 0 < l.length) => hA a e h0)
  have HN := Lib.hid (And.intro hW.ne (And.intro hg hs))
  have HZ := Lib.hid hW.lts
  have HL := Lib.hid (And.intro hm (And.intro hfit hcl))
  have HT := Lib.hid (show (l.take m).length = m by rw [List.length_take]; omega)
  clear hW hb hr hA hD hg hs
  go_enter Tryd.func93, Tryd.ntmps93
  go_wp2_with (first
    | (go_at_call 92; refine (next_ok g A l.length c' m _ hc0 hf hm hcl).mono ?_; rintro e w1 ⟨rfl, hw1⟩; have H1 := Lib.hid (hw1 ▸ HB.out _); have H2 := Lib.hid (hw1 ▸ HR.out _); have H3 := Lib.hid (hw1 ▸ HF.out _); clear hw1)
    | (refine wpList_copy_spl (t := td) rfl (.tmp 4) (.tmp 10) rfl Tryd.underlying31 size8b D off m _ A m _ rfl rfl cur (l.take m) H1.out.1 (by rw [HT.out]; exact (Nat.min_self m).symm) (H2.out.take m) (by rw [HT.out]; exact HL.out.2.1) ?_; intro w2 hb2 hf2))
  go_end0
  have hw2 := (hf2.block g (H1.out.2.lt) (fun e => HN.out.2.1 e.symm)).trans H1.out.2
  have hcut := H2.out.cut m c' (HL.out.2.2) (HL.out.1)
  have hdl : (l.drop m).length = l.length - m := List.length_drop
  have hblk : ∀ a, cutA A c' m = some a → 0 < (l.drop m).length → a.block = s := by
    intro a e h0
    have h0 : 0 < l.length := by rw [hdl] at h0; omega
    unfold cutA at e
    split at e
    · exact HS.out a e h0
    · cases A with
      | none => cases e
      | some a0 =>
        have h1 := HS.out a0 rfl h0
        simp only [Option.map_some, Option.some.injEq] at e
        rw [← e, ← h1]
        unfold Addr.add
        split <;> rfl
  refine ⟨rfl, ⟨⟨cutA A c' m, c' - m, by rw [hdl]; exact hw2, by rw [hdl]; have := HL.out; omega, ?_, hblk⟩, HN.out.1, by have h1 := HZ.out; have h2 := H3.out.size; have h3 := hf2.size; omega⟩, hb2, (H3.out.mono (fun _ _ h => .inl h)).then_ hf2 (fun _ _ h => .inr h)⟩
  exact hcut.fr hf2 (fun a e h0 => by rw [hblk a e h0]; exact fun h => HN.out.2.2 h.symm)
set_option maxRecDepth 8000 in
theorem rpass_no (g s : Nat) (l : List UInt8) (A : Option Addr) (m c : Nat) (w : World) (hW : RdAt w g s l) (hm : l.length < m) :
    Calls Tryd.prog 93 #[.pointer (some ⟨g, 0, none⟩), .slice A m c] w fun e w' => e = .panicked (erc 151) ∧ w = w' := by
  obtain ⟨A', c', hb, hcl, hr, hA⟩ := hW.at_
  have hc0 := slice_cell g _ w hb
  clear hW hb hr hA
  go_enter Tryd.func93, Tryd.ntmps93
  go_wp2_with (go_at_call 92; refine (next_no g A' l.length c' m _ hc0 hm).mono ?_; rintro e w1 ⟨rfl, rfl⟩)
  exact ⟨rfl, rfl, rfl⟩
end Go.Proofs.YtfclkkbmgclfgaaDoor
