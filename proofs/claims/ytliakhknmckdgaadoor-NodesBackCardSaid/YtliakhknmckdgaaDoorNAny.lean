/- nodes: what each call does, of any store, by the program and by the document. -/
import Derived.Test.YtliakhknmckdgaaDoorNAns
namespace Go.Proofs.YtliakhknmckdgaaDoor
open Go.RowKit
section
variable {w : World} {base p : Nat} {A : Option Addr} {cap : Nat} {ps : List Nat} {os : List Oj}
theorem askN_no {os : List Oj} {x : Ky} (h : ¬ askN os x) : ¬ ((named os x).isSome = true ∧ x.k = 2) := h
set_option maxRecDepth 8000 in
theorem AskD.slot {os : List Oj} {x : Ky} {j : Nat} {u : Oj} (_ : AskD os x j u) {i : Nat} (hi : i < 16) : u.s[i]? = some ((u.s[i]?).getD zk) := by
  rw [List.getElem?_eq_getElem (by rw [u.hs]; exact hi)]
  rfl
set_option maxRecDepth 8000 in
theorem get_all (h : StAt w base p A cap ps os) (hn : 0 < os.length) (hT : Tab w) (x : Ky) (i : Int) :
    Calls Tryd.prog 14 #[pv p, x.val, .int .i64 i] w fun e w' => e = .returned (.tuple #[(getA os x i).1.val, .int .i64 (getA os x i).2]) ∧ Below w.heap.size w w' := by
  unfold getA
  split
  · next ha =>
    obtain ⟨j, u, d⟩ := askN_d ha
    split
    · next hi =>
      obtain ⟨k, rfl⟩ := Int.eq_ofNat_of_zero_le hi.1
      have hk : k < 16 := by omega
      rw [d.eq, Int.toNat_natCast]
      exact nget_yes x k _ fun W S K I hW hS hK hI => get1_yes (h.below hW) hn (hT.below hW) x u d.nm d.k d.ok k hk _ (d.slot hk) hS hK hI
    · next hi => exact nget_no (pv p) (.inr ⟨_, rfl⟩) x i 4 fun W S K I hW hS hK hI => get1_slot (h.below hW) hn (hT.below hW) x u d.nm d.k i hi hS hK hI
  · next ha => exact nget_no (pv p) (.inr ⟨_, rfl⟩) x i 190 fun W S K I hW hS hK hI => get1_no (h.below hW) hn (hT.below hW) x (askN_no ha) i hS hK hI
set_option maxRecDepth 8000 in
theorem put_all (h : StAt w base p A cap ps os) (ho : okAll os.length os) (hn : 0 < os.length) (hT : Tab w) (x : Ky) (i : Int) (v : Ky) :
    Calls Tryd.prog 15 #[pv p, x.val, .int .i64 i, v.val] w fun e w' => e = .returned (.tuple #[(putA os x i v).2.1.val, .int .i64 (putA os x i v).2.2]) ∧ StAt w' base p A cap ps (putA os x i v).1 ∧ Fr (fun k => k ∈ ps) w w' := by
  have fin : ∀ {n : Int}, Calls Tryd.prog 15 #[pv p, x.val, .int .i64 i, v.val] w (fun e w' => e = .returned (.tuple #[zk.val, .int .i64 n]) ∧ Below w.heap.size w w') → Calls Tryd.prog 15 #[pv p, x.val, .int .i64 i, v.val] w fun e w' => e = .returned (.tuple #[zk.val, .int .i64 n]) ∧ StAt w' base p A cap ps os ∧ Fr (fun k => k ∈ ps) w w' :=
    fun hc => hc.mono fun e w' hb => ⟨hb.1, h.below hb.2, Fr.of_below hb.2⟩
  unfold putA
  split
  · next ha =>
    obtain ⟨j, u, d⟩ := askN_d ha
    split
    · next hr =>
      split
      · next hi =>
        obtain ⟨k, rfl⟩ := Int.eq_ofNat_of_zero_le hi.1
        have hk : k < 16 := by omega
        split
        · next hv =>
          rw [d.eq, Int.toNat_natCast, d.jn]
          exact nput_yes x k v _ _ (fun q hq => (h.lt q hq).2) fun W S K I V hW hS hK hI hV => put1_yes (h.below hW) hn (hT.below hW) x v u d.nm d.k d.ok hr k hk _ (d.slot hk) hv j d.lt d.o (put_oku d ho k v) hS hK hI hV
        · next hv => exact fin (nput_no (pv p) (.inr ⟨_, rfl⟩) x k v 2 fun W S K I V hW hS hK hI hV => put1_arg (h.below hW) hn (hT.below hW) x v u d.nm d.k d.ok hr k hk hv hS hK hI hV)
      · next hi => exact fin (nput_no (pv p) (.inr ⟨_, rfl⟩) x i v 4 fun W S K I V hW hS hK hI hV => put1_slot (h.below hW) hn (hT.below hW) x v u d.nm d.k d.ok hr i hi hS hK hI hV)
    · next hr => exact fin (nput_no (pv p) (.inr ⟨_, rfl⟩) x i v 191 fun W S K I V hW hS hK hI hV => put1_right (h.below hW) hn (hT.below hW) x v u d.nm d.k d.ok hr i hS hK hI hV)
  · next ha => exact fin (nput_no (pv p) (.inr ⟨_, rfl⟩) x i v 190 fun W S K I V hW hS hK hI hV => put1_no (h.below hW) hn (hT.below hW) x v (askN_no ha) i hS hK hI hV)
set_option maxRecDepth 8000 in
theorem clear_all (h : StAt w base p A cap ps os) (ho : okAll os.length os) (hn : 0 < os.length) (hT : Tab w) (x : Ky) :
    Calls Tryd.prog 16 #[pv p, x.val] w fun e w' => e = .returned (.int .i64 (cleA os x).2) ∧ StAt w' base p A cap ps (cleA os x).1 ∧ Fr (fun k => k ∈ ps) w w' := by
  have fin : ∀ {n : Int}, Calls Tryd.prog 16 #[pv p, x.val] w (fun e w' => e = .returned (.int .i64 n) ∧ Below w.heap.size w w') → Calls Tryd.prog 16 #[pv p, x.val] w fun e w' => e = .returned (.int .i64 n) ∧ StAt w' base p A cap ps os ∧ Fr (fun k => k ∈ ps) w w' :=
    fun hc => hc.mono fun e w' hb => ⟨hb.1, h.below hb.2, Fr.of_below hb.2⟩
  unfold cleA
  split
  · next ha =>
    obtain ⟨j, u, d⟩ := askN_d ha
    split
    · next hr =>
      rw [d.eq, d.jn]
      exact nclear_yes x zks rfl _ (fun q hq => (h.lt q hq).2) fun W S K hW hS hK => clear1_yes (h.below hW) hn (hT.below hW) x u d.nm d.k d.ok hr j d.lt d.o (slotsAs_ok (d.okU ho) d.uk _ _ (zks_may _)) hS hK
    · next hr => exact fin (nclear_no (pv p) (.inr ⟨_, rfl⟩) x 191 fun W S K hW hS hK => clear1_right (h.below hW) hn (hT.below hW) x u d.nm d.k d.ok hr hS hK)
  · next ha => exact fin (nclear_no (pv p) (.inr ⟨_, rfl⟩) x 190 fun W S K hW hS hK => clear1_no (h.below hW) hn (hT.below hW) x (askN_no ha) hS hK)
set_option maxRecDepth 8000 in
theorem clone_all (h : StAt w base p A cap ps os) (ho : okAll os.length os) (hn : 0 < os.length) (hT : Tab w) (x v : Ky) :
    Calls Tryd.prog 17 #[pv p, x.val, v.val] w fun e w' => e = .returned (.int .i64 (cloA os x v).2) ∧ StAt w' base p A cap ps (cloA os x v).1 ∧ Fr (fun k => k ∈ ps) w w' := by
  have fin : ∀ {n : Int}, Calls Tryd.prog 17 #[pv p, x.val, v.val] w (fun e w' => e = .returned (.int .i64 n) ∧ Below w.heap.size w w') → Calls Tryd.prog 17 #[pv p, x.val, v.val] w fun e w' => e = .returned (.int .i64 n) ∧ StAt w' base p A cap ps os ∧ Fr (fun k => k ∈ ps) w w' :=
    fun hc => hc.mono fun e w' hb => ⟨hb.1, h.below hb.2, Fr.of_below hb.2⟩
  unfold cloA
  split
  · next ha =>
    obtain ⟨j, u, d⟩ := askN_d ha
    split
    · next hr =>
      split
      · next hv =>
        obtain ⟨m, t, q⟩ := askN_d hv
        simp only [d.eq, q.eq, d.jn]
        exact nclone_yes x v _ (gots_len os v t) _ (fun q hq => (h.lt q hq).2) fun W S K V hW hS hK hV => clone1_yes (h.below hW) hn (hT.below hW) x v u d.nm d.k d.ok hr t q.nm q.k q.ok j d.lt d.o (slotsAs_ok (d.okU ho) d.uk _ _ (gots_may _ _ _)) hS hK hV
      · next hv => exact fin (nclone_no (pv p) (.inr ⟨_, rfl⟩) x v 190 fun W S K V hW hS hK hV => clone1_from (h.below hW) hn (hT.below hW) x v u d.nm d.k d.ok hr (askN_no hv) hS hK hV)
    · next hr => exact fin (nclone_no (pv p) (.inr ⟨_, rfl⟩) x v 191 fun W S K V hW hS hK hV => clone1_right (h.below hW) hn (hT.below hW) x v u d.nm d.k d.ok hr hS hK hV)
  · next ha => exact fin (nclone_no (pv p) (.inr ⟨_, rfl⟩) x v 190 fun W S K V hW hS hK hV => clone1_no (h.below hW) hn (hT.below hW) x v (askN_no ha) hS hK hV)
theorem all_not (h : StAt w base p A cap ps os) (hn : 0 < os.length) (hT : Tab w) (x : Ky) (ha : ¬ askN os x) :
    Calls Tryd.prog 20 #[pv p, x.val] w fun e w' => e = .returned (.tuple #[.slice none 0 0, .int .i64 190]) ∧ Below w.heap.size w w' :=
  nall_no (pv p) (.inr ⟨_, rfl⟩) x 190 fun _ _ _ hW hS hK => all1_no (h.below hW) hn (hT.below hW) x (askN_no ha) hS hK
theorem all_is (h : StAt w base p A cap ps os) (hn : 0 < os.length) (hT : Tab w) (x : Ky) {j : Nat} {u : Oj} (d : AskD os x j u) :
    Calls Tryd.prog 20 #[pv p, x.val] w fun e w' => ∃ b, e = .returned (.tuple #[.slice (some ⟨b, 0, none⟩) 16 16, .int .i64 0]) ∧ w.heap.size ≤ b ∧ Blk w' b 95 (kcs (gots os x u)).toArray ∧ Below w.heap.size w w' :=
  nall_yes x _ fun _ _ _ hW hS hK => (all1_yes (h.below hW) hn (hT.below hW) x u d.nm d.k d.ok hS hK).mono fun e w' q => ⟨_, q.1, by have := q.2.2.1; omega, q.2.2.2, q.2.1⟩
end
section
variable {w : World} {A : Option Addr} {l : List Oj} {n cap : Nat}
set_option maxRecDepth 8000 in
theorem rask_f (hr : RdO w A l) (hn : l.length = n) (hl : n ≤ 1000) (h0 : 0 < n) (x : Ky) :
    Calls Tryd.prog 28 #[.slice A n cap, x.val, .int .i64 2, .bool false] w fun e w' => e = .returned (.int .i64 (askA l x)) ∧ Below w.heap.size w w' := by
  unfold askA
  split
  · next ha => exact rask_yes_f hr hn hl h0 x ha.1 ha.2
  · next ha =>
    by_cases hs : (named l x).isSome = true
    · exact rask_kind_f hr hn hl h0 x hs fun hk => ha ⟨hs, hk⟩
    · exact rask_un_f hr hn hl h0 x (by simpa using hs)
set_option maxRecDepth 8000 in
theorem rask_t (hr : RdO w A l) (hn : l.length = n) (hl : n ≤ 1000) (h0 : 0 < n) (x : Ky) :
    Calls Tryd.prog 28 #[.slice A n cap, x.val, .int .i64 2, .bool true] w fun e w' => e = .returned (.int .i64 (opnA l x)) ∧ Below w.heap.size w w' := by
  unfold opnA
  split
  · next ha =>
    obtain ⟨j, u, d⟩ := askN_d ha
    split
    · next h4 => exact rask_yes_t hr hn hl h0 x ha.1 ha.2 d.ok h4
    · next h4 => exact rask_right_t hr hn hl h0 x ha.1 ha.2 d.ok _ rfl h4
  · next ha =>
    by_cases hs : (named l x).isSome = true
    · exact rask_kind_t hr hn hl h0 x hs fun hk => ha ⟨hs, hk⟩
    · exact rask_un_t hr hn hl h0 x (by simpa using hs)
theorem askA_no {os : List Oj} {x : Ky} (h : ¬ askN os x) : askA os x = 190 := if_neg h
theorem opnA_no {os : List Oj} {x : Ky} (h : ¬ askN os x) : opnA os x = 190 := if_neg h
set_option maxRecDepth 8000 in
theorem opnA_r {os : List Oj} {x : Ky} (h : askN os x) (hr : ¬ x.r % 4 = 0) : opnA os x = 191 := by unfold opnA; rw [if_pos h, if_neg hr]
set_option maxRecDepth 8000 in
theorem rget_all (hr : RdO w A l) (hn : l.length = n) (hl : n ≤ 1000) (h0 : 0 < n) (x : Ky) (i : Int) :
    Calls Tryd.prog 24 #[.slice A n cap, x.val, .int .i64 i] w fun e w' => e = .returned (.tuple #[(getA l x i).1.val, .int .i64 (getA l x i).2]) ∧ Below w.heap.size w w' := by
  unfold getA
  split
  · next ha =>
    obtain ⟨j, u, d⟩ := askN_d ha
    split
    · next hi =>
      obtain ⟨k, rfl⟩ := Int.eq_ofNat_of_zero_le hi.1
      have hk : k < 16 := by omega
      rw [d.eq, Int.toNat_natCast]
      exact rget_yes hr hn hl h0 x ha.1 d.k j d.lt d.o k hk _ (by rw [d.at_]; exact d.slot hk) d.ok _ rfl
    · next hi => exact rget_slot hr hn hl h0 x ha.1 d.k i hi
  · next ha => exact rget_err hr hn hl h0 x i 190 (by decide) fun W hW => askA_no ha ▸ rask_f (hr.below hW) hn hl h0 x
set_option maxRecDepth 8000 in
theorem rput_all (hr : RdO w A l) (hn : l.length = n) (hl : n ≤ 1000) (h0 : 0 < n) (x : Ky) (i : Int) (v : Ky) :
    Calls Tryd.prog 25 #[.slice A n cap, x.val, .int .i64 i, v.val] w fun e w' => ∃ A' c', e = .returned (.tuple #[.slice A' n c', (putA l x i v).2.1.val, .int .i64 (putA l x i v).2.2]) ∧ (A' = A ∨ ∃ g, A' = some ⟨g, 0, none⟩ ∧ w.heap.size ≤ g) ∧ RdO w' A' (putA l x i v).1 ∧ Below w.heap.size w w' := by
  have fin : ∀ {m : Int}, Calls Tryd.prog 25 #[.slice A n cap, x.val, .int .i64 i, v.val] w (fun e w' => e = .returned (.tuple #[.slice A n cap, zk.val, .int .i64 m]) ∧ Below w.heap.size w w') → Calls Tryd.prog 25 #[.slice A n cap, x.val, .int .i64 i, v.val] w fun e w' => ∃ A' c', e = .returned (.tuple #[.slice A' n c', zk.val, .int .i64 m]) ∧ (A' = A ∨ ∃ g, A' = some ⟨g, 0, none⟩ ∧ w.heap.size ≤ g) ∧ RdO w' A' l ∧ Below w.heap.size w w' :=
    fun hc => hc.mono fun e w' hb => ⟨A, cap, hb.1, .inl rfl, hr.below hb.2, hb.2⟩
  unfold putA
  split
  · next ha =>
    obtain ⟨j, u, d⟩ := askN_d ha
    split
    · next h4 =>
      split
      · next hi =>
        obtain ⟨k, rfl⟩ := Int.eq_ofNat_of_zero_le hi.1
        have hk : k < 16 := by omega
        split
        · next hv =>
          rw [d.eq, Int.toNat_natCast, d.jn]
          refine (rputs_yes hr hn hl h0 x v ha.1 d.k d.ok h4 j d.lt d.o k hk _ (by rw [d.at_]; exact d.slot hk) _ rfl (hn ▸ hv)).mono ?_
          rintro e w' ⟨g', c', h1, h2, h3, h5⟩
          rw [d.at_] at h3
          exact ⟨_, c', h1, .inr ⟨g', rfl, h2⟩, h3, h5⟩
        · next hv => exact fin (rputs_arg hr hn hl h0 x v ha.1 d.k d.ok h4 k hk (hn ▸ hv))
      · next hi => exact fin (rputs_slot hr hn hl h0 x v ha.1 d.k d.ok h4 i hi)
    · next h4 => exact fin (rputs_err hr hn hl h0 x v i 191 (by decide) fun W hW => opnA_r ha h4 ▸ rask_t (hr.below hW) hn hl h0 x)
  · next ha => exact fin (rputs_err hr hn hl h0 x v i 190 (by decide) fun W hW => opnA_no ha ▸ rask_t (hr.below hW) hn hl h0 x)
set_option maxRecDepth 8000 in
theorem rclear_all (hr : RdO w A l) (hn : l.length = n) (hl : n ≤ 1000) (h0 : 0 < n) (x : Ky) :
    Calls Tryd.prog 26 #[.slice A n cap, x.val] w fun e w' => ∃ A' c', e = .returned (.tuple #[.slice A' n c', .int .i64 (cleA l x).2]) ∧ (A' = A ∨ ∃ g, A' = some ⟨g, 0, none⟩ ∧ w.heap.size ≤ g) ∧ RdO w' A' (cleA l x).1 ∧ Below w.heap.size w w' := by
  have fin : ∀ {m : Int}, Calls Tryd.prog 26 #[.slice A n cap, x.val] w (fun e w' => e = .returned (.tuple #[.slice A n cap, .int .i64 m]) ∧ Below w.heap.size w w') → Calls Tryd.prog 26 #[.slice A n cap, x.val] w fun e w' => ∃ A' c', e = .returned (.tuple #[.slice A' n c', .int .i64 m]) ∧ (A' = A ∨ ∃ g, A' = some ⟨g, 0, none⟩ ∧ w.heap.size ≤ g) ∧ RdO w' A' l ∧ Below w.heap.size w w' :=
    fun hc => hc.mono fun e w' hb => ⟨A, cap, hb.1, .inl rfl, hr.below hb.2, hb.2⟩
  unfold cleA
  split
  · next ha =>
    obtain ⟨j, u, d⟩ := askN_d ha
    split
    · next h4 =>
      rw [d.eq, d.jn]
      refine (rclear_yes hr hn hl h0 x ha.1 d.k d.ok h4 j d.lt d.o).mono ?_
      rintro e w' ⟨g', c', h1, h2, h3, h5⟩
      rw [d.at_] at h3
      exact ⟨_, c', h1, .inr ⟨g', rfl, h2⟩, h3, h5⟩
    · next h4 => exact fin (rclear_err x 191 (by decide) fun W hW => opnA_r ha h4 ▸ rask_t (hr.below hW) hn hl h0 x)
  · next ha => exact fin (rclear_err x 190 (by decide) fun W hW => opnA_no ha ▸ rask_t (hr.below hW) hn hl h0 x)
set_option maxRecDepth 8000 in
theorem rclone_all (hr : RdO w A l) (hn : l.length = n) (hl : n ≤ 1000) (h0 : 0 < n) (x v : Ky) :
    Calls Tryd.prog 27 #[.slice A n cap, x.val, v.val] w fun e w' => ∃ A' c', e = .returned (.tuple #[.slice A' n c', .int .i64 (cloA l x v).2]) ∧ (A' = A ∨ ∃ g, A' = some ⟨g, 0, none⟩ ∧ w.heap.size ≤ g) ∧ RdO w' A' (cloA l x v).1 ∧ Below w.heap.size w w' := by
  have fin : ∀ {m : Int}, Calls Tryd.prog 27 #[.slice A n cap, x.val, v.val] w (fun e w' => e = .returned (.tuple #[.slice A n cap, .int .i64 m]) ∧ Below w.heap.size w w') → Calls Tryd.prog 27 #[.slice A n cap, x.val, v.val] w fun e w' => ∃ A' c', e = .returned (.tuple #[.slice A' n c', .int .i64 m]) ∧ (A' = A ∨ ∃ g, A' = some ⟨g, 0, none⟩ ∧ w.heap.size ≤ g) ∧ RdO w' A' l ∧ Below w.heap.size w w' :=
    fun hc => hc.mono fun e w' hb => ⟨A, cap, hb.1, .inl rfl, hr.below hb.2, hb.2⟩
  unfold cloA
  split
  · next ha =>
    obtain ⟨j, u, d⟩ := askN_d ha
    split
    · next h4 =>
      split
      · next hv =>
        obtain ⟨m, t, q⟩ := askN_d hv
        simp only [d.eq, q.eq, d.jn]
        refine (rclone_yes hr hn hl h0 x v ha.1 d.k d.ok h4 j d.lt d.o hv.1 q.k q.ok m q.lt q.o).mono ?_
        rintro e w' ⟨g', c', h1, h2, h3, h5⟩
        simp only [d.at_, q.at_] at h3
        exact ⟨_, c', h1, .inr ⟨g', rfl, h2⟩, h3, h5⟩
      · next hv => exact fin (rclone_from hr hn hl h0 x v ha.1 d.k d.ok h4 190 (by decide) fun W hW => askA_no hv ▸ rask_f (hr.below hW) hn hl h0 v)
    · next h4 => exact fin (rclone_err x v 191 (by decide) fun W hW => opnA_r ha h4 ▸ rask_t (hr.below hW) hn hl h0 x)
  · next ha => exact fin (rclone_err x v 190 (by decide) fun W hW => opnA_no ha ▸ rask_t (hr.below hW) hn hl h0 x)
end
end Go.Proofs.YtliakhknmckdgaaDoor
