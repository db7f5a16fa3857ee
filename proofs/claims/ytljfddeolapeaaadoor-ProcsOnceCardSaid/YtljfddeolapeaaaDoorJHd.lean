/- procs: a message is handed over. -/
import Derived.Test.YtljfddeolapeaaaDoorJNd
import Derived.Lib.BufferWrite
namespace Go.Proofs.YtljfddeolapeaaaDoor
open List renaming getElem_toArray → zq1, getElem_cons_succ → zq2, getElem_cons_zero → zq3, setIfInBounds_toArray → zq4, set_cons_zero → zq5, set_cons_succ → zq6
open Go.RowKit
set_option maxRecDepth 8000 in
theorem und16 : Tryd.prog.underlying 53 = some (.array (Tryd.prog.arrayLen 53) (Tryd.prog.elem 53)) := by kernel_rfl
set_option maxRecDepth 8000 in
theorem alen16 : Tryd.prog.arrayLen 53 = 16 := by kernel_rfl
theorem run_size6 (W : World) : (sizeOf (Tryd.prog.elem 53)).run Tryd.prog W = .ok 6 W := run_sizeOf (by kernel_rfl) W
set_option maxRecDepth 8000 in
theorem und3k : Tryd.prog.underlying 36 = some (.array (Tryd.prog.arrayLen 36) (Tryd.prog.elem 36)) := by kernel_rfl
set_option maxRecDepth 8000 in
theorem alen3k : Tryd.prog.arrayLen 36 = 3 := by kernel_rfl
theorem run_size6' (W : World) : (sizeOf (Tryd.prog.elem 36)).run Tryd.prog W = .ok 6 W := run_sizeOf (by kernel_rfl) W
set_option maxRecDepth 8000 in
theorem cut16 (g off : Nat) (W : World) : (Instr.sliceAt 53 (.pointer (some ⟨g, off, none⟩)) (some (.int .i64 12)) (some (.int .i64 15)) none).run Tryd.prog W = .ok (.slice (some ⟨g, off + 72, none⟩) 3 4) W := by
  rw [run_sliceAt_array_lh W 53 ⟨g, off, none⟩ und16 .i64 .i64 12 15 (by omega) (by omega) (by rw [alen16]; omega), run_size6]
  simp [slicedAt, alen16, Addr.add]
set_option maxRecDepth 8000 in
theorem cut3 (g off : Nat) (W : World) : (Instr.sliceAt 36 (.pointer (some ⟨g, off, none⟩)) none none none).run Tryd.prog W = .ok (.slice (some ⟨g, off, none⟩) 3 3) W := by
  rw [run_sliceAt_array_all W 36 ⟨g, off, none⟩ und3k, run_size6']
  simp [slicedAt, alen3k, Addr.add]
set_option maxRecDepth 8000 in
theorem cut64 (g off : Nat) (W : World) : (Instr.sliceAt 54 (.pointer (some ⟨g, off, none⟩)) (some (.int .i64 1)) none none).run Tryd.prog W = .ok (.slice (some ⟨g, off + 1, none⟩) 63 63) W := by
  have := run_cut_lo g off 1 (by decide) W
  simpa [cutP] using this
set_option maxRecDepth 8000 in
theorem run_copy_k3 {w : World} (ty : TypeId) (g o : Nat) (a : Addr) (l0 cs : List Value) (t : TypeId) (hcs : cs.length = 18) (hg : Blk w g t l0.toArray) (hsrc : ∀ j v, cs[j]? = some v → w.cell? (a.add j) = some v) (hfit : o + 18 ≤ l0.length) (h1 : ∀ v ∈ cs, v.oneCell' = true) :
    (Builtin.copy_ #[43, 43] ty #[.slice (some ⟨g, o, none⟩) 3 4, .slice (some a) 3 3]).run Tryd.prog w = .ok (.int .i64 3) (w.setRow g (l0.take o ++ cs ++ l0.drop (o + cs.length)).toArray) := by
  have hl := run_loadCells_list (P := Tryd.prog) w a cs hsrc
  have hst := run_storeCells_at Tryd.prog g o t cs 0 l0.toArray w hg (by rw [hcs]; simpa using hfit) h1
  obtain ⟨i, hi⟩ : ∃ i, Tryd.prog.info? 33 = some i := by
    have := size30
    cases hq : Tryd.prog.info? 33 with
    | none => simp [hq] at this
    | some i => exact ⟨i, rfl⟩
  have hs6 : i.size = 6 := by have := size30; simpa [hi] using this
  rw [hcs] at hl hst ⊢
  simp [Builtin.copy_, run_underlying Tryd.underlying43, Builtin.lenOf, Builtin.firstCells, sizeOf, typeInfo, hi, hs6, hl, goInt]
  simp at hst
  simp [hst, Result.andThen]
set_option maxRecDepth 8000 in
theorem step_copy_k3 {ops : Array Oper} {o : Oper} {a : Act} {w : World} {K : Act → World → Prop} {Q : Exit → Act → World → Prop} {E : Prop} (hgd : o.guard = none) (d s : Operand)
    (ho : o.op = .call { callee := .builtin .copy, args := #[d, s], argTypes := #[43, 43] }) {g off b o2 : Nat} {t : TypeId} {l0 l1 : List Value} (l : List Ky) (hl : l.length = 3)
    (hd : a.eval d = .slice (some ⟨g, off, none⟩) 3 4) (hs : a.eval s = .slice (some ⟨b, o2, none⟩) 3 3) (hg : Blk w g t l0.toArray) (hsrc : w.rangeAt b o2 (kcs l)) (hfit : off + 18 ≤ l0.length) (he : l0.take off ++ kcs l ++ l0.drop (off + (kcs l).length) = l1)
    (hK : K (a.put o.dst (.int .i64 3)) (w.setRow g l1.toArray)) : if Region.wanted o (yielded ops a.tmps) = true then Oper.wp Tryd.prog o a w K Q else E := by
  have hrun := run_copy_k3 (w := w) o.type g off ⟨b, o2, none⟩ l0 (kcs l) t (kcs3 hl) hg (fun j v hj => by rw [Addr.add_mid]; exact hsrc j v hj) hfit (kcs_one l)
  rw [he] at hrun
  rw [if_pos (by simp [Region.wanted, hgd])]
  unfold Oper.wp
  simp [execOp, ho, resolve, invoke, builtin, hd, hs, hrun, Result.andThen]
  exact hK
set_option maxRecDepth 8000 in
theorem step_copy_str {ops : Array Oper} {o : Oper} {a : Act} {w : World} {K : Act → World → Prop} {Q : Exit → Act → World → Prop} {E : Prop} (hgd : o.guard = none) (d s : Operand)
    (ho : o.op = .call { callee := .builtin .copy, args := #[d, s], argTypes := #[124, 9] }) {g off : Nat} {t : TypeId} {l0 l1 : List Value} (l : List UInt8) (n c : Nat) (hl : l.length ≤ n)
    (hd : a.eval d = .slice (some ⟨g, off, none⟩) n c) (hs : a.eval s = .string (st l)) (hg : Blk w g t l0.toArray) (hfit : off + l.length ≤ l0.length) (he : l0.take off ++ bv l ++ l0.drop (off + l.length) = l1)
    (hK : K (a.put o.dst (.int .i64 (l.length : Int))) (w.setRow g l1.toArray)) : if Region.wanted o (yielded ops a.tmps) = true then Oper.wp Tryd.prog o a w K Q else E := by
  have hrun := Lib.run_copy_row_string (P := Tryd.prog) w 124 9 o.type 5 g off n c (st l) l0.toArray t Tryd.underlying124 size5 hg (by rw [st_size]; exact hl) (by rw [st_size, List.size_toArray]; exact hfit)
  rw [st_size] at hrun
  have hb : Lib.byteCells (st l).data.toList = bv l := by simp [Lib.byteCells, st, bv]
  rw [hb] at hrun
  rw [show (l0.toArray.toList.take off ++ bv l ++ l0.toArray.toList.drop (off + l.length)) = l1 from he] at hrun
  rw [if_pos (by simp [Region.wanted, hgd])]
  unfold Oper.wp
  simp [execOp, ho, resolve, invoke, builtin, hd, hs, hrun, Result.andThen]
  exact hK
set_option maxRecDepth 8000 in
theorem kcs_append (a b : List Ky) : kcs (a ++ b) = kcs a ++ kcs b := by
  induction a with
  | nil => rfl
  | cons x a ih => simp [kcs, ih]
set_option maxRecDepth 8000 in
theorem keys_fit (u : Oj) (l : List Ky) (hl : l.length = 3) : u.cells.take 75 ++ kcs l ++ u.cells.drop (75 + (kcs l).length) = (keysAs u l hl).cells := by
  have hs : u.s = u.s.take 12 ++ ((u.s.drop 12).take 3 ++ u.s.drop 15) := by
    rw [show u.s.drop 15 = (u.s.drop 12).drop 3 by rw [List.drop_drop], List.take_append_drop, List.take_append_drop]
  have h12 : (kcs (u.s.take 12)).length = 72 := by rw [kcs_length, List.length_take, u.hs]; rfl
  have h3 : (kcs ((u.s.drop 12).take 3)).length = 18 := by rw [kcs_length, List.length_take, List.length_drop, u.hs]; rfl
  have e : u.cells = ([.int .i64 u.k, .int .i64 u.c, .int .i64 u.l] ++ kcs (u.s.take 12)) ++ kcs ((u.s.drop 12).take 3) ++ (kcs (u.s.drop 15) ++ bv u.b) := by
    have : u.cells = [.int .i64 u.k, .int .i64 u.c, .int .i64 u.l] ++ kcs u.s ++ bv u.b := by simp [Oj.cells]
    rw [this, hs, kcs_append, kcs_append, ← hs]
    simp
  have hX : ([Value.int .i64 u.k, .int .i64 u.c, .int .i64 u.l] ++ kcs (u.s.take 12)).length = 75 := by rw [List.length_append, h12]; rfl
  have := mid_fit (X := [Value.int .i64 u.k, .int .i64 u.c, .int .i64 u.l] ++ kcs (u.s.take 12)) (M := kcs ((u.s.drop 12).take 3)) (Y := kcs (u.s.drop 15) ++ bv u.b) (l := kcs l) (k := 0) hX (by rw [h3, kcs3 hl]; decide)
  rw [← e] at this
  simp only [Nat.add_zero, Nat.zero_add, List.take_zero, List.nil_append] at this
  rw [this, List.drop_eq_nil_of_le (by rw [h3, kcs3 hl]; decide)]
  simp [Oj.cells, keysAs, kcs_append]
set_option maxRecDepth 8000 in
theorem str_fit (u : Oj) (d : List UInt8) (h : (lay u.b 1 d).length = 64) : u.cells.take 100 ++ bv d ++ u.cells.drop (100 + (bv d).length) = (bAs u (lay u.b 1 d) h).cells := by
  have e : u.cells = [.int .i64 u.k, .int .i64 u.c, .int .i64 u.l] ++ kcs u.s ++ bv u.b := by simp [Oj.cells]
  have e2 : (bAs u (lay u.b 1 d) h).cells = [.int .i64 u.k, .int .i64 u.c, .int .i64 u.l] ++ kcs u.s ++ bv (lay u.b 1 d) := by simp [Oj.cells, bAs]
  obtain ⟨H, hH⟩ : ∃ H, H = [Value.int .i64 u.k, .int .i64 u.c, .int .i64 u.l] ++ kcs u.s := ⟨_, rfl⟩
  have hHl : H.length = 99 := by rw [hH, List.length_append, kcs_length, u.hs]; rfl
  rw [e, e2, ← hH, show 100 = H.length + 1 by omega, show H.length + 1 + (bv d).length = H.length + (1 + (bv d).length) by omega, List.take_length_add_append, List.drop_length_add_append]
  simp [lay, bv]
set_option maxRecDepth 8000 in
theorem built64 (n : Int) : Tryd.prog.built 54 [(0, .int .u8 n)] = some (Value.int .u8 n :: bv (List.replicate 63 0)).toArray := by kernel_rfl
theorem y_bl1J {ops : Array Oper} {o : Oper} {a : Act} {S : World → Prop} {t : TypeId} {i : Nat} {x : Value} {cs : Array Value} (hw : Region.wanted o (yielded ops a.tmps) = true) (q : Operand) (ho : o.op = .build t #[(i, q)]) (hq : a.eval q = x) (hb : Tryd.prog.built t [(i, x)] = some cs) : YieldsIf Tryd.prog ops S o (.agg cs) a := y_bl1 hw q ho hq hb
set_option maxRecDepth 8000 in
theorem u8_len {n : Nat} (h : n ≤ 32) : ((UInt8.ofNat n).toNat : Int) = (n : Int) := by
  simp
  omega
set_option maxRecDepth 8000 in
theorem w8_len {n : Nat} (h : n ≤ 32) : IntKind.u8.wrap (n : Int) = (n : Int) := by
  simp only [IntKind.wrap, IntKind.bits, IntKind.signed]
  simp
  omega
section
variable {w : World} {g off : Nat} {p : Option Addr} {t : TypeId} {X Y : List Value} {x : Int} {u : Oj}
theorem Blk.kat {w : World} {g : Nat} {t : TypeId} {k : Ky} (h : Blk w g t (kl k).toArray) : KeyAt w g 0 k := ⟨h.cell 0, h.cell 1, h.cell 2, h.cell 3, h.cell 4, h.cell 5⟩
set_option maxRecDepth 100000 in
set_option maxHeartbeats 4000000 in
theorem hand_any (h : NdB w g off t X Y p x u) (m : Mg) (hd : m.d.length ≤ 32) (k : Ky) : Calls Tryd.prog 63 #[.pointer (some ⟨g, off, none⟩), m.val, k.val] w fun e w' => e = .returned (.tuple #[]) ∧ NdB w' g off t X Y p x (handO u m k) ∧ Fr (fun k => k = g) w w' := by
  have hml := m.len
  have h10 := cut16 g (off + 3)
  have h12 := cut3 w.heap.size 2
  have h41 := cut64 g (off + 99)
  have HGL := Lib.hid h.lt
  have HG0 := Lib.hid ((h.alloc (.cells m.cells.toArray 38)).alloc (.cells (kc k.k k.o k.c k.l k.r k.v) 33))
  have HM0 := Lib.hid ((Blk.new w 38 m.cells.toArray).alloc (.cells (kc k.k k.o k.c k.l k.r k.v) 33))
  have HK0 : Hid (Blk ((w.alloc (.cells m.cells.toArray 38)).alloc (.cells (kc k.k k.o k.c k.l k.r k.v) 33)) (w.heap.size + 1) 33 (kl k).toArray) := Lib.hid (Blk.new_of (w.alloc (.cells m.cells.toArray 38)) 33 (kc k.k k.o k.c k.l k.r k.v) (g := w.heap.size + 1) (by simp))
  have HF0 : Hid (Fr (fun k => k = g) w ((w.alloc (.cells m.cells.toArray 38)).alloc (.cells (kc k.k k.o k.c k.l k.r k.v) 33))) := Lib.hid (Fr.of_below (((Below.refl w.heap.size w).alloc (Nat.le_refl _) (.cells m.cells.toArray 38)).alloc (by simp) (.cells (kc k.k k.o k.c k.l k.r k.v) 33)))
  have HD := Lib.hid hd
  have HU8 := Lib.hid (u8_len hd)
  have hw8 : IntKind.u8.wrap (m.d.length : Int) = ((UInt8.ofNat m.d.length).toNat : Int) := by rw [u8_len hd]; exact w8_len hd
  have HB5 : Hid ((bAs (slotAs (slotAs (keysAs u m.k m.hk) 15 k) 3 (nmk m.c)) (zbs.set 0 (UInt8.ofNat m.d.length)) (by simp [zbs])).cells.take 100 ++ bv m.d ++ (bAs (slotAs (slotAs (keysAs u m.k m.hk) 15 k) 3 (nmk m.c)) (zbs.set 0 (UInt8.ofNat m.d.length)) (by simp [zbs])).cells.drop (100 + (bv m.d).length) = (bAs (slotAs (slotAs (keysAs u m.k m.hk) 15 k) 3 (nmk m.c)) (hdB m.d) (hdB_len _)).cells) := Lib.hid (by
    have hl := hdB_lay m.d (by omega)
    have := str_fit (bAs (slotAs (slotAs (keysAs u m.k m.hk) 15 k) 3 (nmk m.c)) (zbs.set 0 (UInt8.ofNat m.d.length)) (by simp [zbs])) m.d (by show (lay (zbs.set 0 (UInt8.ofNat m.d.length)) 1 m.d).length = 64; rw [hl]; exact hdB_len _)
    rw [this]
    have e : lay (bAs (slotAs (slotAs (keysAs u m.k m.hk) 15 k) 3 (nmk m.c)) (zbs.set 0 (UInt8.ofNat m.d.length)) (by simp [zbs])).b 1 m.d = hdB m.d := hl
    rw [show bAs (bAs (slotAs (slotAs (keysAs u m.k m.hk) 15 k) 3 (nmk m.c)) (zbs.set 0 (UInt8.ofNat m.d.length)) (by simp [zbs])) (lay (bAs (slotAs (slotAs (keysAs u m.k m.hk) 15 k) 3 (nmk m.c)) (zbs.set 0 (UInt8.ofNat m.d.length)) (by simp [zbs])).b 1 m.d) (by rw [e]; exact hdB_len _) = bAs (slotAs (slotAs (keysAs u m.k m.hk) 15 k) 3 (nmk m.c)) (hdB m.d) (hdB_len _) from oj_ext rfl rfl rfl rfl e])
  clear h hd
  go_enter Tryd.func63, Tryd.ntmps63
  go_wp2_with fail
  refine wp_region_only (S := fun w' => w'.cell? ⟨w.heap.size, 0, none⟩ = some (.int .i64 m.c) ∧ w'.cell? ⟨w.heap.size, 1, none⟩ = some (.string (st m.d)) ∧ KeyAt w' (w.heap.size + 1) 0 k) (by kernel_rfl) ⟨by have := HM0.out.drew.mg.code; simpa using this, by have := HM0.out.drew.mg.data; simpa using this, HK0.out.drew.kat⟩ (fun hHeld => ?_)
  refine wpAnyH_take (i := 0) (v := ?v1) rfl (by kernel_rfl) (by kernel_rfl) (by kernel_rfl) (fun _ _ _ h => h) (Or.inl ⟨by rfl, ?hy1⟩) hHeld ?rest1
  case hy1 =>
    intro w' hSw
    try dsimp only at hSw
    go_simp
    first | done | with_reducible rfl
  try simp only [Act.put, zq1, zq3, zq4, zq5, zq6]
  refine wpAnyH_take (i := 1) (v := ?v2) rfl (by kernel_rfl) (by kernel_rfl) (by kernel_rfl) (fun _ _ _ h => h) (Or.inl ⟨by rfl, ?hy2⟩) hHeld ?rest2
  case hy2 =>
    intro w' hSw
    try dsimp only at hSw
    go_simp
    first | done | with_reducible rfl
  try simp only [Act.put, zq1, zq2, zq3, zq4, zq5, zq6]
  refine wpAnyH_take (i := 2) (v := ?v3) rfl (by kernel_rfl) (by kernel_rfl) (by kernel_rfl) (fun _ _ _ h => h) (Or.inl ⟨by rfl, ?hy3⟩) hHeld ?rest3
  case hy3 =>
    intro w' hSw
    try dsimp only at hSw
    go_simp
    first | done | with_reducible rfl
  try simp only [Act.put, zq1, zq2, zq3, zq4, zq5, zq6]
  refine wpAnyH_take (i := 3) (v := ?v4) rfl (by kernel_rfl) (by kernel_rfl) (by kernel_rfl) (fun _ _ _ h => h) (Or.inl ⟨by rfl, ?hy4⟩) hHeld ?rest4
  case hy4 =>
    intro w' hSw
    try dsimp only at hSw
    go_simp
    first | done | with_reducible rfl
  try simp only [Act.put, zq1, zq2, zq3, zq4, zq5, zq6]
  refine wpAnyH_take (i := 4) (v := ?v5) rfl (by kernel_rfl) (by kernel_rfl) (by kernel_rfl) (fun _ _ _ h => h) (Or.inl ⟨by rfl, ?hy5⟩) hHeld ?rest5
  case hy5 =>
    intro w' hSw
    try dsimp only at hSw
    go_simp
    first | done | with_reducible rfl
  try simp only [Act.put, zq1, zq2, zq3, zq4, zq5, zq6]
  refine wpAnyH_take (i := 5) (v := ?v6) rfl (by kernel_rfl) (by kernel_rfl) (by kernel_rfl) (fun _ _ _ h => h) (Or.inl ⟨by rfl, ?hy6⟩) hHeld ?rest6
  case hy6 =>
    intro w' hSw
    try dsimp only at hSw
    go_simp
    first | done | with_reducible rfl
  try simp only [Act.put, zq1, zq2, zq3, zq4, zq5, zq6]
  refine wpAnyH_take (i := 6) (v := ?v7) rfl (by kernel_rfl) (by kernel_rfl) (by kernel_rfl) (fun _ _ _ h => h) (Or.inl ⟨by rfl, ?hy7⟩) hHeld ?rest7
  case hy7 =>
    intro w' hSw
    try dsimp only at hSw
    go_simp
    first | done | with_reducible rfl
  try simp only [Act.put, zq1, zq2, zq3, zq4, zq5, zq6]
  refine wpAnyH_ready (rs := [7]) (by kernel_rfl) (by simp) ?_
  refine AllReadyH.cons (by rfl) (fun K hK => ?_) AllReadyH.nil
  refine step_copy_k3 rfl (.tmp 10) (.tmp 12) (by rfl) m.k m.hk (g := g) (off := off + 75) (b := w.heap.size) (o2 := 2) (by rfl) (by rfl) HG0.out.drew.blk (by have := HM0.out.drew.mg.keys; simpa using this) (HG0.out.drew.room (k := 75) (n := 18) (by decide)) (HG0.out.drew.fit (k := 75) (l := kcs m.k) (by rw [kcs3 m.hk]; decide) (keys_fit u m.k m.hk)) ?_
  clear hHeld
  have HG1 := Lib.hid (HG0.out.drew.setRow (keysAs u m.k m.hk))
  have HM1 := Lib.hid (Blk.row_far HM0.out.drew (show w.heap.size ≠ g by have := HGL.out; omega) (X ++ jc p x (keysAs u m.k m.hk) ++ Y).toArray)
  have HK1 := Lib.hid (Blk.row_far HK0.out.drew (show w.heap.size + 1 ≠ g by have := HGL.out; omega) (X ++ jc p x (keysAs u m.k m.hk) ++ Y).toArray)
  have HF1 := Lib.hid (Fr.trans (HF0.out.drew) (setRow_fr _ g (X ++ jc p x (keysAs u m.k m.hk) ++ Y).toArray))
  generalize World.setRow _ g (X ++ jc p x (keysAs u m.k m.hk) ++ Y).toArray = W1 at HG1 HM1 HK1 HF1 ⊢
  clear HG0 HM0 HK0 HF0
  refine hK.out _ _ ⟨by have := HM1.out.mg.code; simpa using this, by have := HM1.out.mg.data; simpa using this, HK1.out.kat⟩ (fun hHeld => ?_)
  clear hK K
  try simp only [Act.put, zq1, zq2, zq3, zq4, zq5, zq6]
  refine wpAnyH_done (by kernel_rfl) ?_ _
  refine OnlyN.normal ?_
  go_wp2_with fail
  refine wp_region_only (S := fun w' => w'.cell? ⟨w.heap.size, 0, none⟩ = some (.int .i64 m.c) ∧ w'.cell? ⟨w.heap.size, 1, none⟩ = some (.string (st m.d)) ∧ KeyAt w' (w.heap.size + 1) 0 k) (by kernel_rfl) ⟨by have := HM1.out.drew.mg.code; simpa using this, by have := HM1.out.drew.mg.data; simpa using this, HK1.out.drew.kat⟩ (fun hHeld => ?_)
  refine wpAnyH_take (i := 0) (v := ?v8) rfl (by kernel_rfl) (by kernel_rfl) (by kernel_rfl) (fun _ _ _ h => h) (Or.inl ⟨by rfl, ?hy8⟩) hHeld ?rest8
  case hy8 =>
    intro w' hSw
    try dsimp only at hSw
    go_simp
    first | done | with_reducible rfl
  try simp only [Act.put, zq1, zq3, zq4, zq5, zq6]
  refine wpAnyH_take (i := 1) rfl (by kernel_rfl) (by kernel_rfl) (by kernel_rfl) (fun _ _ _ h => h) (y_kyJ (by rfl) (.tmp 5) (by rfl) (w.heap.size + 1) 0 (by rfl) k (fun _ h => h.2.2)) hHeld ?_
  try simp only [Act.put, zq1, zq2, zq3, zq4, zq5, zq6]
  refine wpAnyH_take (i := 2) (v := ?v9) rfl (by kernel_rfl) (by kernel_rfl) (by kernel_rfl) (fun _ _ _ h => h) (Or.inl ⟨by rfl, ?hy9⟩) hHeld ?rest9
  case hy9 =>
    intro w' hSw
    try dsimp only at hSw
    go_simp
    first | done | with_reducible rfl
  try simp only [Act.put, zq1, zq2, zq3, zq4, zq5, zq6]
  refine wpAnyH_take (i := 3) (v := ?v10) rfl (by kernel_rfl) (by kernel_rfl) (by kernel_rfl) (fun _ _ _ h => h) (Or.inl ⟨by rfl, ?hy10⟩) hHeld ?rest10
  case hy10 =>
    intro w' hSw
    try dsimp only at hSw
    go_simp
    first | done | with_reducible rfl
  try simp only [Act.put, zq1, zq2, zq3, zq4, zq5, zq6]
  refine wpAnyH_take (i := 4) (v := ?v11) rfl (by kernel_rfl) (by kernel_rfl) (by kernel_rfl) (fun _ _ _ h => h) (Or.inl ⟨by rfl, ?hy11⟩) hHeld ?rest11
  case hy11 =>
    intro w' hSw
    try dsimp only at hSw
    go_simp
    first | done | with_reducible rfl
  try simp only [Act.put, zq1, zq2, zq3, zq4, zq5, zq6]
  refine wpAnyH_take (i := 5) (v := ?v12) rfl (by kernel_rfl) (by kernel_rfl) (by kernel_rfl) (fun _ _ _ h => h) (Or.inl ⟨by rfl, ?hy12⟩) hHeld ?rest12
  case hy12 =>
    intro w' hSw
    try dsimp only at hSw
    go_simp
    first | done | with_reducible rfl
  try simp only [Act.put, zq1, zq2, zq3, zq4, zq5, zq6]
  refine wpAnyH_ready (rs := [6]) (by kernel_rfl) (by simp) ?_
  refine AllReadyH.cons (by rfl) (fun K hK => ?_) AllReadyH.nil
  refine step_store_in HG1.out.drew.blk rfl (.tmp 19) (.tmp 15) (ty := 33) (l := kl k) (off := off + 93) (by rfl) (by rfl) (by rfl) size30 (HG1.out.drew.room (k := 93) (n := 6) (by decide)) (kl_one _) (HG1.out.drew.fit (k := 93) (l := kl k) (show 93 + 6 ≤ 163 by decide) (slot_fit (keysAs u m.k m.hk) 15 (by decide) k)) ?_
  clear hHeld
  have HG2 := Lib.hid (HG1.out.drew.setRow (slotAs (keysAs u m.k m.hk) 15 k))
  have HM2 := Lib.hid (Blk.row_far HM1.out.drew (show w.heap.size ≠ g by have := HGL.out; omega) (X ++ jc p x (slotAs (keysAs u m.k m.hk) 15 k) ++ Y).toArray)
  have HK2 := Lib.hid (Blk.row_far HK1.out.drew (show w.heap.size + 1 ≠ g by have := HGL.out; omega) (X ++ jc p x (slotAs (keysAs u m.k m.hk) 15 k) ++ Y).toArray)
  have HF2 := Lib.hid (Fr.trans (HF1.out.drew) (setRow_fr _ g (X ++ jc p x (slotAs (keysAs u m.k m.hk) 15 k) ++ Y).toArray))
  generalize World.setRow _ g (X ++ jc p x (slotAs (keysAs u m.k m.hk) 15 k) ++ Y).toArray = W2 at HG2 HM2 HK2 HF2 ⊢
  clear HG1 HM1 HK1 HF1
  refine hK.out _ _ ⟨by have := HM2.out.mg.code; simpa using this, by have := HM2.out.mg.data; simpa using this, HK2.out.kat⟩ (fun hHeld => ?_)
  clear hK K
  try simp only [Act.put, zq1, zq2, zq3]
  refine wpAnyH_done (by kernel_rfl) ?_ _
  refine OnlyN.normal ?_
  go_wp2_with fail
  refine wp_region_only (S := fun w' => w'.cell? ⟨w.heap.size, 0, none⟩ = some (.int .i64 m.c) ∧ w'.cell? ⟨w.heap.size, 1, none⟩ = some (.string (st m.d)) ∧ KeyAt w' (w.heap.size + 1) 0 k) (by kernel_rfl) ⟨by have := HM2.out.drew.mg.code; simpa using this, by have := HM2.out.drew.mg.data; simpa using this, HK2.out.drew.kat⟩ (fun hHeld => ?_)
  refine wpAnyH_take (i := 0) (v := ?v13) rfl (by kernel_rfl) (by kernel_rfl) (by kernel_rfl) (fun _ _ _ h => h) (Or.inl ⟨by rfl, ?hy13⟩) hHeld ?rest13
  case hy13 =>
    intro w' hSw
    try dsimp only at hSw
    go_simp
    first | done | with_reducible rfl
  try simp only [Act.put, zq1, zq3, zq4, zq5, zq6]
  refine wpAnyH_take (i := 1) (v := ?v14) rfl (by kernel_rfl) (by kernel_rfl) (by kernel_rfl) (fun _ _ _ h => h) (Or.inl ⟨by rfl, ?hy14⟩) hHeld ?rest14
  case hy14 =>
    intro w' hSw
    try dsimp only at hSw
    go_simp
    first | done | with_reducible rfl
  try simp only [Act.put, zq1, zq2, zq3, zq4, zq5, zq6]
  refine wpAnyH_take (i := 2) (v := ?v15) rfl (by kernel_rfl) (by kernel_rfl) (by kernel_rfl) (fun _ _ _ h => h) (Or.inl ⟨by rfl, ?hy15⟩) hHeld ?rest15
  case hy15 =>
    intro w' hSw
    try dsimp only at hSw
    go_simp
    first | done | with_reducible rfl
  try simp only [Act.put, zq1, zq2, zq3, zq4, zq5, zq6]
  refine wpAnyH_take (i := 4) (v := ?v16) rfl (by kernel_rfl) (by kernel_rfl) (by kernel_rfl) (fun _ _ _ h => h) (Or.inl ⟨by rfl, ?hy16⟩) hHeld ?rest16
  case hy16 =>
    intro w' hSw
    try dsimp only at hSw
    go_simp
    first | done | with_reducible rfl
  try simp only [Act.put, zq1, zq2, zq3, zq4, zq5, zq6]
  refine wpAnyH_take (i := 5) (v := ?v17) rfl (by kernel_rfl) (by kernel_rfl) (by kernel_rfl) (fun _ _ _ h => h) (Or.inl ⟨by rfl, ?hy17⟩) hHeld ?rest17
  case hy17 =>
    intro w' hSw
    try dsimp only at hSw
    go_simp
    first | done | with_reducible rfl
  try simp only [Act.put, zq1, zq2, zq3, zq4, zq5, zq6]
  refine wpAnyH_take (i := 6) (v := ?v18) rfl (by kernel_rfl) (by kernel_rfl) (by kernel_rfl) (fun _ _ _ h => h) (Or.inl ⟨by rfl, ?hy18⟩) hHeld ?rest18
  case hy18 =>
    intro w' hSw
    try dsimp only at hSw
    go_simp
    first | done | with_reducible rfl
  try simp only [Act.put, zq1, zq2, zq3, zq4, zq5, zq6]
  refine wpAnyH_ready (rs := [3]) (by kernel_rfl) (by simp) ?_
  refine AllReadyH.cons (by rfl) (fun K hK => ?_) AllReadyH.nil
  go_simp
  refine (number_any m.c _).mono ?_
  rintro e y3 ⟨rfl, b3⟩
  have HG2b := Lib.hid (HG2.out.drew.below b3)
  have HM2b := Lib.hid (HM2.out.drew.keep b3)
  have HK2b := Lib.hid (HK2.out.drew.keep b3)
  have HF2b := Lib.hid (HF2.out.drew.below b3)
  clear b3 hHeld HG2 HM2 HK2 HF2
  go_wp2_with fail
  refine hK.out _ _ ⟨by have := HM2b.out.mg.code; simpa using this, by have := HM2b.out.mg.data; simpa using this, HK2b.out.kat⟩ (fun hHeld => ?_)
  clear hK K
  try simp only [Act.put, zq1, zq2, zq3, zq4, zq5, zq6]
  refine wpAnyH_take (i := 7) (v := ?v19) rfl (by kernel_rfl) (by kernel_rfl) (by kernel_rfl) (fun _ _ _ h => h) (Or.inl ⟨by rfl, ?hy19⟩) hHeld ?rest19
  case hy19 =>
    intro w' hSw
    try dsimp only at hSw
    go_simp
    first | done | with_reducible rfl
  try simp only [Act.put, zq1, zq2, zq3, zq4, zq5, zq6]
  refine wpAnyH_ready (rs := [8]) (by kernel_rfl) (by simp) ?_
  refine AllReadyH.cons (by rfl) (fun K hK => ?_) AllReadyH.nil
  refine step_store_in HG2b.out.blk rfl (.tmp 27) (.tmp 23) (ty := 33) (l := kl (nmk m.c)) (off := off + 21) (by rfl) (by rfl) (by rfl) size30 (HG2b.out.room (k := 21) (n := 6) (by decide)) (kl_one _) (HG2b.out.fit (k := 21) (l := kl (nmk m.c)) (show 21 + 6 ≤ 163 by decide) (slot_fit (slotAs (keysAs u m.k m.hk) 15 k) 3 (by decide) (nmk m.c))) ?_
  clear hHeld
  have HG3 := Lib.hid (HG2b.out.setRow (slotAs (slotAs (keysAs u m.k m.hk) 15 k) 3 (nmk m.c)))
  have HM3 := Lib.hid (Blk.row_far HM2b.out (show w.heap.size ≠ g by have := HGL.out; omega) (X ++ jc p x (slotAs (slotAs (keysAs u m.k m.hk) 15 k) 3 (nmk m.c)) ++ Y).toArray)
  have HK3 := Lib.hid (Blk.row_far HK2b.out (show w.heap.size + 1 ≠ g by have := HGL.out; omega) (X ++ jc p x (slotAs (slotAs (keysAs u m.k m.hk) 15 k) 3 (nmk m.c)) ++ Y).toArray)
  have HF3 := Lib.hid (Fr.trans HF2b.out (setRow_fr _ g (X ++ jc p x (slotAs (slotAs (keysAs u m.k m.hk) 15 k) 3 (nmk m.c)) ++ Y).toArray))
  generalize World.setRow _ g (X ++ jc p x (slotAs (slotAs (keysAs u m.k m.hk) 15 k) 3 (nmk m.c)) ++ Y).toArray = W3 at HG3 HM3 HK3 HF3 ⊢
  clear HG2b HM2b HK2b HF2b
  refine hK.out _ _ ⟨by have := HM3.out.mg.code; simpa using this, by have := HM3.out.mg.data; simpa using this, HK3.out.kat⟩ (fun hHeld => ?_)
  clear hK K
  try simp only [Act.put, zq1, zq2, zq3]
  refine wpAnyH_done (by kernel_rfl) ?_ _
  refine OnlyN.normal ?_
  have c1 := HM3.out.mg.data
  rw [Nat.zero_add] at c1
  go_wp2_with (first
    | (show wpList _ _ _ (Oper.mk (some 33) (.build _ _) _ _ _ _ :: _) _ _; refine wpList_yields (S := fun _ => True) (y_bl1J (by rfl) (.tmp 32) (by rfl) (x := .int .u8 ((UInt8.ofNat m.d.length).toNat : Int)) (by first | rfl | (rw [HU8.out]; rfl)) (built64 _)) trivial ?_)
    | (show wpList _ _ _ (Oper.mk none (.store _ (.tmp 36) (.tmp 33)) _ _ _ _ :: _) _ _; refine wpList_store_in HG3.out.blk rfl (.tmp 36) (.tmp 33) (ty := 54) (l := bv (zbs.set 0 (UInt8.ofNat m.d.length))) (off := off + 99) (by rfl) (by rfl) (by rfl) size32 (HG3.out.room (k := 99) (n := 64) (by decide)) (bv_one _) (HG3.out.fit (k := 99) (l := bv (zbs.set 0 (UInt8.ofNat m.d.length))) (show 99 + 64 ≤ 163 by decide) (cells_bytes (slotAs (slotAs (keysAs u m.k m.hk) 15 k) 3 (nmk m.c)) _ (by simp [zbs]))) ?_))
  have HG4 := Lib.hid (HG3.out.setRow (bAs (slotAs (slotAs (keysAs u m.k m.hk) 15 k) 3 (nmk m.c)) (zbs.set 0 (UInt8.ofNat m.d.length)) (by simp [zbs])))
  have HM4 := Lib.hid (Blk.row_far HM3.out (show w.heap.size ≠ g by have := HGL.out; omega) (X ++ jc p x (bAs (slotAs (slotAs (keysAs u m.k m.hk) 15 k) 3 (nmk m.c)) (zbs.set 0 (UInt8.ofNat m.d.length)) (by simp [zbs])) ++ Y).toArray)
  have HK4 := Lib.hid (Blk.row_far HK3.out (show w.heap.size + 1 ≠ g by have := HGL.out; omega) (X ++ jc p x (bAs (slotAs (slotAs (keysAs u m.k m.hk) 15 k) 3 (nmk m.c)) (zbs.set 0 (UInt8.ofNat m.d.length)) (by simp [zbs])) ++ Y).toArray)
  have HF4 := Lib.hid (Fr.trans HF3.out (setRow_fr _ g (X ++ jc p x (bAs (slotAs (slotAs (keysAs u m.k m.hk) 15 k) 3 (nmk m.c)) (zbs.set 0 (UInt8.ofNat m.d.length)) (by simp [zbs])) ++ Y).toArray))
  generalize World.setRow _ g (X ++ jc p x (bAs (slotAs (slotAs (keysAs u m.k m.hk) 15 k) 3 (nmk m.c)) (zbs.set 0 (UInt8.ofNat m.d.length)) (by simp [zbs])) ++ Y).toArray = W4 at HG4 HM4 HK4 HF4 ⊢
  clear HG3 HM3 HK3 HF3 c1
  go_wp2_with fail
  refine wp_region_only (S := fun w' => w'.cell? ⟨w.heap.size, 0, none⟩ = some (.int .i64 m.c) ∧ w'.cell? ⟨w.heap.size, 1, none⟩ = some (.string (st m.d)) ∧ KeyAt w' (w.heap.size + 1) 0 k) (by kernel_rfl) ⟨by have := HM4.out.drew.mg.code; simpa using this, by have := HM4.out.drew.mg.data; simpa using this, HK4.out.drew.kat⟩ (fun hHeld => ?_)
  refine wpAnyH_take (i := 0) (v := ?v20) rfl (by kernel_rfl) (by kernel_rfl) (by kernel_rfl) (fun _ _ _ h => h) (Or.inl ⟨by rfl, ?hy20⟩) hHeld ?rest20
  case hy20 =>
    intro w' hSw
    try dsimp only at hSw
    go_simp
    first | done | with_reducible rfl
  try simp only [Act.put, zq1, zq3, zq4, zq5, zq6]
  refine wpAnyH_take (i := 1) (v := ?v21) rfl (by kernel_rfl) (by kernel_rfl) (by kernel_rfl) (fun _ _ _ h => h) (Or.inl ⟨by rfl, ?hy21⟩) hHeld ?rest21
  case hy21 =>
    intro w' hSw
    try dsimp only at hSw
    go_simp
    first | done | with_reducible rfl
  try simp only [Act.put, zq1, zq2, zq3, zq4, zq5, zq6]
  refine wpAnyH_take (i := 2) (v := ?v22) rfl (by kernel_rfl) (by kernel_rfl) (by kernel_rfl) (fun _ _ _ h => h) (Or.inl ⟨by rfl, ?hy22⟩) hHeld ?rest22
  case hy22 =>
    intro w' hSw
    try dsimp only at hSw
    go_simp
    first | done | with_reducible rfl
  try simp only [Act.put, zq1, zq2, zq3, zq4, zq5, zq6]
  refine wpAnyH_take (i := 3) (v := ?v23) rfl (by kernel_rfl) (by kernel_rfl) (by kernel_rfl) (fun _ _ _ h => h) (Or.inl ⟨by rfl, ?hy23⟩) hHeld ?rest23
  case hy23 =>
    intro w' hSw
    try dsimp only at hSw
    go_simp
    first | done | with_reducible rfl
  try simp only [Act.put, zq1, zq2, zq3, zq4, zq5, zq6]
  refine wpAnyH_take (i := 4) (v := ?v24) rfl (by kernel_rfl) (by kernel_rfl) (by kernel_rfl) (fun _ _ _ h => h) (Or.inl ⟨by rfl, ?hy24⟩) hHeld ?rest24
  case hy24 =>
    intro w' hSw
    try dsimp only at hSw
    go_simp
    first | done | with_reducible rfl
  try simp only [Act.put, zq1, zq2, zq3, zq4, zq5, zq6]
  refine wpAnyH_take (i := 5) (v := ?v25) rfl (by kernel_rfl) (by kernel_rfl) (by kernel_rfl) (fun _ _ _ h => h) (Or.inl ⟨by rfl, ?hy25⟩) hHeld ?rest25
  case hy25 =>
    intro w' hSw
    try dsimp only at hSw
    go_simp
    first | done | with_reducible rfl
  try simp only [Act.put, zq1, zq2, zq3, zq4, zq5, zq6]
  refine wpAnyH_take (i := 6) (v := ?v26) rfl (by kernel_rfl) (by kernel_rfl) (by kernel_rfl) (fun _ _ _ h => h) (Or.inl ⟨by rfl, ?hy26⟩) hHeld ?rest26
  case hy26 =>
    intro w' hSw
    try dsimp only at hSw
    go_simp
    first | done | with_reducible rfl
  try simp only [Act.put, zq1, zq2, zq3, zq4, zq5, zq6]
  refine wpAnyH_ready (rs := [7]) (by kernel_rfl) (by simp) ?_
  refine AllReadyH.cons (by rfl) (fun K hK => ?_) AllReadyH.nil
  refine step_copy_str rfl (.tmp 41) (.tmp 43) (by rfl) m.d 63 63 (by have := HD.out; omega) (g := g) (off := off + 100) (by rfl) (by rfl) HG4.out.drew.blk (l1 := X ++ jc p x (bAs (slotAs (slotAs (keysAs u m.k m.hk) 15 k) 3 (nmk m.c)) (hdB m.d) (hdB_len _)) ++ Y) (HG4.out.drew.room (k := 100) (n := m.d.length) (by have := HD.out; omega)) (by have := HG4.out.drew.fit (v := bAs (slotAs (slotAs (keysAs u m.k m.hk) 15 k) 3 (nmk m.c)) (hdB m.d) (hdB_len _)) (k := 100) (l := bv m.d) (by rw [bv_length]; have := HD.out; omega) HB5.out; rwa [bv_length] at this) ?_
  clear hHeld
  have HG5 := Lib.hid (HG4.out.drew.setRow (bAs (slotAs (slotAs (keysAs u m.k m.hk) 15 k) 3 (nmk m.c)) (hdB m.d) (hdB_len _)))
  have HM5 := Lib.hid (Blk.row_far HM4.out.drew (show w.heap.size ≠ g by have := HGL.out; omega) (X ++ jc p x (bAs (slotAs (slotAs (keysAs u m.k m.hk) 15 k) 3 (nmk m.c)) (hdB m.d) (hdB_len _)) ++ Y).toArray)
  have HK5 := Lib.hid (Blk.row_far HK4.out.drew (show w.heap.size + 1 ≠ g by have := HGL.out; omega) (X ++ jc p x (bAs (slotAs (slotAs (keysAs u m.k m.hk) 15 k) 3 (nmk m.c)) (hdB m.d) (hdB_len _)) ++ Y).toArray)
  have HF5 := Lib.hid (Fr.trans (HF4.out.drew) (setRow_fr _ g (X ++ jc p x (bAs (slotAs (slotAs (keysAs u m.k m.hk) 15 k) 3 (nmk m.c)) (hdB m.d) (hdB_len _)) ++ Y).toArray))
  generalize World.setRow _ g (X ++ jc p x (bAs (slotAs (slotAs (keysAs u m.k m.hk) 15 k) 3 (nmk m.c)) (hdB m.d) (hdB_len _)) ++ Y).toArray = W5 at HG5 HM5 HK5 HF5 ⊢
  clear HG4 HM4 HK4 HF4
  refine hK.out _ _ ⟨by have := HM5.out.mg.code; simpa using this, by have := HM5.out.mg.data; simpa using this, HK5.out.kat⟩ (fun hHeld => ?_)
  clear hK K
  try simp only [Act.put, zq1, zq2, zq3, zq4, zq5, zq6]
  refine wpAnyH_done (by kernel_rfl) ?_ _
  refine OnlyN.normal ?_
  go_wp2_with (first
    | (go_at_call 66; refine (become_any HG5.out 1).mono ?_; rintro e w6 ⟨rfl, h6, f6⟩; have HG6 := Lib.hid h6; have HF6 := Lib.hid (HF5.out.trans f6); clear h6 f6))
  go_end0
  exact ⟨rfl, HG6.out, HF6.out⟩
end
end Go.Proofs.YtljfddeolapeaaaDoor
