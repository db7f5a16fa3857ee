/- The document's own answer: the key of bytes. -/
import Derived.Test.YtjfpmadnlpcpfaaDoorFr1
import Derived.Test.YtjfpmadnlpcpfaaDoorRegIn
namespace Go.Proofs.YtjfpmadnlpcpfaaDoor
open Go.RowKit
attribute [local go_sem] Oper.semAt_some
set_option maxRecDepth 8000 in
theorem step_store_newd {P : Program} {ops : Array Oper} {o : Oper} {a : Act} {K : Act → World → Prop} {Q : Exit → Act → World → Prop} {E : Prop} {W : World} {t : TypeId} (hgd : o.guard = none) (ty : TypeId) (x y : Operand) (ho : o.op = .store ty x y) (hx : a.eval x = .pointer (some ⟨W.heap.size, 0, none⟩)) (cells old : Array Value) (hy : a.eval y = .agg cells)
    (hi : (P.info? ty).map (·.size) = some cells.size) (hold : old.size = cells.size) (h1 : cells.all (·.oneCell') = true)
    (h : K (a.put o.dst undef) ((W.alloc (.cells cells t)).drew)) : if Region.wanted o (yielded ops a.tmps) = true then Oper.wp P o a ((W.alloc (.cells old t)).drew) K Q else E := by
  rw [if_pos (by simp [Region.wanted, hgd])]
  have e : (W.alloc (.cells old t)).drew.setRow W.heap.size cells = (W.alloc (.cells cells t)).drew := by
    show ((W.alloc (.cells old t)).setRow W.heap.size cells).drew = _
    rw [World.setRow_alloc_new]
  refine wp_store_row ty x y ho W.heap.size cells hx hy t old (heap_alloc_new W _) hi hold h1 ?_
  rw [e]
  exact h
def b1 (l : List UInt8) : UInt8 := b0 (l.drop 1)
set_option maxRecDepth 8000 in
theorem rd2 {w : World} {b off : Nat} {l : List UInt8} (h : Rd w (some ⟨b, off, none⟩) l) (hl : 20 ≤ l.length) : w.cell? ⟨b, off, none⟩ = some (.int .u8 ((b0 l).toNat : Int)) ∧ w.cell? ⟨b, off + 1, none⟩ = some (.int .u8 ((b1 l).toNat : Int)) := by
  constructor
  · obtain ⟨b', o', e, hc⟩ := h 0 (by omega)
    injection e with e
    injection e with e1 e2
    subst e1 e2
    have : b0 l = l[0]'(by omega) := by
      match l, hl with
      | x :: l, _ => rfl
    rw [this]
    exact hc
  · obtain ⟨b', o', e, hc⟩ := h 1 (by omega)
    injection e with e
    injection e with e1 e2
    subst e1 e2
    have : b1 l = l[1]'(by omega) := by
      match l, hl with
      | x :: y :: l, _ => rfl
    rw [this]
    exact hc
theorem rnum_at (b off i n c : Nat) (l : List UInt8) (w : World) (hl : i + n ≤ l.length) (hr : Rd w (some ⟨b, off, none⟩) l) (h8 : n ≤ 8) :
    Calls Tryd.prog 32 #[.slice (some ⟨b, off + i, none⟩) n c] w fun e w' => e = .returned (.int .u64 (numLE ((l.drop i).take n) : Int)) ∧ w = w' :=
  rnumber_any b (off + i) n c ((l.drop i).take n) w (by rw [List.length_take, List.length_drop]; omega) ((hr.drop i).take n) h8
set_option maxRecDepth 8000 in
theorem num_b (l : List UInt8) (n : Nat) (h : n ≤ 8) : numLE (l.take n) < 18446744073709551616 := by
  have := numLE_lt (l.take n)
  have hp : (256 : Nat) ^ (l.take n).length ≤ 256 ^ 8 := Nat.pow_le_pow_right (by omega) (by rw [List.length_take]; omega)
  omega
theorem wrap_i64n (N : Nat) (h : N < 4294967296) : IntKind.i64.wrap (N : Int) = (N : Int) := wrap_i64_of _ (by omega) (by omega)
set_option maxRecDepth 8000 in
theorem rgetkey_len (A : Option Addr) (n c : Nat) (w : World) (h : n ≠ 20) :
    Calls Tryd.prog 16 #[.slice A n c] w fun e w' => e = .returned (.tuple #[zk.val, .int .i64 151]) ∧ Below w.heap.size w w' := by
  have d : ((n : Int) != 20) = true := by simp; omega
  have HB := Lib.hid ((Below.refl w.heap.size w).alloc (Nat.le_refl _) (.cells (kl zk).toArray 25))
  clear h
  go_enter Tryd.func16, Tryd.ntmps16
  go_wp2
  exact bodyPost_ret (res_1t rfl _ _ w.heap.size _ _ rfl rfl (load_key zk (Blk.new w _ _))) rfl ⟨rfl, HB.out⟩
set_option maxRecDepth 100000 in
set_option maxHeartbeats 2000000 in
theorem rgetkey_yes (b off c : Nat) (l : List UInt8) (w : World) (hok : (kof l).ok) (hl : l.length = 20) (hc : 20 ≤ c) (hr : Rd w (some ⟨b, off, none⟩) l) :
    Calls Tryd.prog 16 #[.slice (some ⟨b, off, none⟩) 20 c] w fun e w' => e = .returned (.tuple #[(kof l).val, .int .i64 0]) ∧ Below w.heap.size w w' := by
  have HR := Lib.hid (hr.alloc (.cells (kl zk).toArray 25))
  have HB := Lib.hid ((Below.refl w.heap.size w).alloc (Nat.le_refl _) (.cells (kl zk).toArray 25))
  have HL := Lib.hid hl
  have HC := Lib.hid (Ky.chk_yes hok)
  have H8 := Lib.hid (num_b (l.drop 12) 8 (by decide))
  have n2 : ¬ c = 2 := by omega
  have n4 : ¬ c = 4 := by omega
  have n8 : ¬ c = 8 := by omega
  have n12 : ¬ c = 12 := by omega
  have w1 := wrap_i64u (b0 l)
  have w2 := wrap_i64u (b1 l)
  have w3 := wrap_i64n (numLE ((l.drop 2).take 2)) (by have := num_b (l.drop 2) 2 (by decide); have h := numLE_lt ((l.drop 2).take 2); rw [show ((l.drop 2).take 2).length = 2 by rw [List.length_take, List.length_drop]; omega] at h; omega)
  have w4 := wrap_i64n (numLE ((l.drop 4).take 4)) (by have h := numLE_lt ((l.drop 4).take 4); rw [show ((l.drop 4).take 4).length = 4 by rw [List.length_take, List.length_drop]; omega] at h; omega)
  have w8 := wrap_i64n (numLE ((l.drop 8).take 4)) (by have h := numLE_lt ((l.drop 8).take 4); rw [show ((l.drop 8).take 4).length = 4 by rw [List.length_take, List.length_drop]; omega] at h; omega)
  have l1 : (2 : Int) ≤ (c : Int) := by omega
  have l2 : (4 : Int) ≤ (c : Int) := by omega
  have l3 : (8 : Int) ≤ (c : Int) := by omega
  have l4 : (12 : Int) ≤ (c : Int) := by omega
  have l5 : (20 : Int) ≤ (c : Int) := by omega
  clear hr hl hc hok
  go_enter Tryd.func16, Tryd.ntmps16
  go_wp2_with fail
  refine wp_region_only (S := fun w' => w'.cell? ⟨b, off, none⟩ = some (.int .u8 ((b0 l).toNat : Int)) ∧ w'.cell? ⟨b, off + 1, none⟩ = some (.int .u8 ((b1 l).toNat : Int)) ∧ Rd w' (some ⟨b, off, none⟩) l) (by kernel_rfl) ⟨(rd2 HR.out.drew (by have := HL.out; omega)).1, (rd2 HR.out.drew (by have := HL.out; omega)).2, HR.out.drew⟩ (fun hHeld => ?_)
  refine wpAnyH_take (i := 0) (v := ?v1) rfl (by kernel_rfl) (by kernel_rfl) (by kernel_rfl) (fun _ _ _ h => h) (Or.inl ⟨by rfl, ?hy1⟩) hHeld ?rest1
  case hy1 =>
    intro w' hSw
    try dsimp only at hSw
    go_simp
    first | done | with_reducible rfl
  try simp only [Act.put, List.getElem_toArray, List.getElem_cons_zero, List.setIfInBounds_toArray, List.set_cons_zero, List.set_cons_succ]
  refine wpAnyH_take (i := 1) (v := ?v2) rfl (by kernel_rfl) (by kernel_rfl) (by kernel_rfl) (fun _ _ _ h => h) (Or.inl ⟨by rfl, ?hy2⟩) hHeld ?rest2
  case hy2 =>
    intro w' hSw
    try dsimp only at hSw
    go_simp
    first | done | with_reducible rfl
  try simp only [Act.put, List.getElem_toArray, List.getElem_cons_succ, List.getElem_cons_zero, List.setIfInBounds_toArray, List.set_cons_zero, List.set_cons_succ]
  refine wpAnyH_take (i := 2) (v := ?v3) rfl (by kernel_rfl) (by kernel_rfl) (by kernel_rfl) (fun _ _ _ h => h) (Or.inl ⟨by rfl, ?hy3⟩) hHeld ?rest3
  case hy3 =>
    intro w' hSw
    try dsimp only at hSw
    go_simp
    first | done | with_reducible rfl
  try simp only [Act.put, List.getElem_toArray, List.getElem_cons_succ, List.getElem_cons_zero, List.setIfInBounds_toArray, List.set_cons_zero, List.set_cons_succ]
  refine wpAnyH_take (i := 3) (v := ?v4) rfl (by kernel_rfl) (by kernel_rfl) (by kernel_rfl) (fun _ _ _ h => h) (Or.inl ⟨by rfl, ?hy4⟩) hHeld ?rest4
  case hy4 =>
    intro w' hSw
    try dsimp only at hSw
    go_simp
    first | done | with_reducible rfl
  try simp only [Act.put, List.getElem_toArray, List.getElem_cons_succ, List.getElem_cons_zero, List.setIfInBounds_toArray, List.set_cons_zero, List.set_cons_succ]
  refine wpAnyH_take (i := 4) (v := ?v5) rfl (by kernel_rfl) (by kernel_rfl) (by kernel_rfl) (fun _ _ _ h => h) (Or.inl ⟨by rfl, ?hy5⟩) hHeld ?rest5
  case hy5 =>
    intro w' hSw
    try dsimp only at hSw
    go_simp
    first | done | with_reducible rfl
  try simp only [Act.put, List.getElem_toArray, List.getElem_cons_succ, List.getElem_cons_zero, List.setIfInBounds_toArray, List.set_cons_zero, List.set_cons_succ]
  refine wpAnyH_take (i := 5) (v := ?v6) rfl (by kernel_rfl) (by kernel_rfl) (by kernel_rfl) (fun _ _ _ h => h) (Or.inl ⟨by rfl, ?hy6⟩) hHeld ?rest6
  case hy6 =>
    intro w' hSw
    try dsimp only at hSw
    go_simp
    first | done | with_reducible rfl
  try simp only [Act.put, List.getElem_toArray, List.getElem_cons_succ, List.getElem_cons_zero, List.setIfInBounds_toArray, List.set_cons_zero, List.set_cons_succ]
  refine wpAnyH_take (i := 6) (v := ?v7) rfl (by kernel_rfl) (by kernel_rfl) (by kernel_rfl) (fun _ _ _ h => h) (Or.inl ⟨by rfl, ?hy7⟩) hHeld ?rest7
  case hy7 =>
    intro w' hSw
    try dsimp only at hSw
    go_simp
    first | done | with_reducible rfl
  try simp only [Act.put, List.getElem_toArray, List.getElem_cons_succ, List.getElem_cons_zero, List.setIfInBounds_toArray, List.set_cons_zero, List.set_cons_succ]
  refine wpAnyH_take (i := 7) (v := ?v8) rfl (by kernel_rfl) (by kernel_rfl) (by kernel_rfl) (fun _ _ _ h => h) (Or.inl ⟨by rfl, ?hy8⟩) hHeld ?rest8
  case hy8 =>
    intro w' hSw
    try dsimp only at hSw
    go_simp
    first | done | with_reducible rfl
  try simp only [Act.put, List.getElem_toArray, List.getElem_cons_succ, List.getElem_cons_zero, List.setIfInBounds_toArray, List.set_cons_zero, List.set_cons_succ]
  refine wpAnyH_take (i := 8) (v := ?v9) rfl (by kernel_rfl) (by kernel_rfl) (by kernel_rfl) (fun _ _ _ h => h) (Or.inl ⟨by rfl, ?hy9⟩) hHeld ?rest9
  case hy9 =>
    intro w' hSw
    try dsimp only at hSw
    go_simp
    first | done | with_reducible rfl
  try simp only [Act.put, List.getElem_toArray, List.getElem_cons_succ, List.getElem_cons_zero, List.setIfInBounds_toArray, List.set_cons_zero, List.set_cons_succ]
  refine wpAnyH_take (i := 9) (v := ?v10) rfl (by kernel_rfl) (by kernel_rfl) (by kernel_rfl) (fun _ _ _ h => h) (Or.inl ⟨by rfl, ?hy10⟩) hHeld ?rest10
  case hy10 =>
    intro w' hSw
    try dsimp only at hSw
    go_simp
    first | done | with_reducible rfl
  try simp only [Act.put, List.getElem_toArray, List.getElem_cons_succ, List.getElem_cons_zero, List.setIfInBounds_toArray, List.set_cons_zero, List.set_cons_succ]
  refine wpAnyH_take (i := 12) (v := ?v11) rfl (by kernel_rfl) (by kernel_rfl) (by kernel_rfl) (fun _ _ _ h => h) (Or.inl ⟨by rfl, ?hy11⟩) hHeld ?rest11
  case hy11 =>
    intro w' hSw
    try dsimp only at hSw
    go_simp
    first | done | with_reducible rfl
  try simp only [Act.put, List.getElem_toArray, List.getElem_cons_succ, List.getElem_cons_zero, List.setIfInBounds_toArray, List.set_cons_zero, List.set_cons_succ]
  refine wpAnyH_take (i := 13) (v := ?v12) rfl (by kernel_rfl) (by kernel_rfl) (by kernel_rfl) (fun _ _ _ h => h) (Or.inl ⟨by rfl, ?hy12⟩) hHeld ?rest12
  case hy12 =>
    intro w' hSw
    try dsimp only at hSw
    go_simp
    first | done | with_reducible rfl
  try simp only [Act.put, List.getElem_toArray, List.getElem_cons_succ, List.getElem_cons_zero, List.setIfInBounds_toArray, List.set_cons_zero, List.set_cons_succ]
  refine wpAnyH_take (i := 16) (v := ?v13) rfl (by kernel_rfl) (by kernel_rfl) (by kernel_rfl) (fun _ _ _ h => h) (Or.inl ⟨by rfl, ?hy13⟩) hHeld ?rest13
  case hy13 =>
    intro w' hSw
    try dsimp only at hSw
    go_simp
    first | done | with_reducible rfl
  try simp only [Act.put, List.getElem_toArray, List.getElem_cons_succ, List.getElem_cons_zero, List.setIfInBounds_toArray, List.set_cons_zero, List.set_cons_succ]
  refine wpAnyH_take (i := 17) (v := ?v14) rfl (by kernel_rfl) (by kernel_rfl) (by kernel_rfl) (fun _ _ _ h => h) (Or.inl ⟨by rfl, ?hy14⟩) hHeld ?rest14
  case hy14 =>
    intro w' hSw
    try dsimp only at hSw
    go_simp
    first | done | with_reducible rfl
  try simp only [Act.put, List.getElem_toArray, List.getElem_cons_succ, List.getElem_cons_zero, List.setIfInBounds_toArray, List.set_cons_zero, List.set_cons_succ]
  refine wpAnyH_take (i := 20) (v := ?v15) rfl (by kernel_rfl) (by kernel_rfl) (by kernel_rfl) (fun _ _ _ h => h) (Or.inl ⟨by rfl, ?hy15⟩) hHeld ?rest15
  case hy15 =>
    intro w' hSw
    try dsimp only at hSw
    go_simp
    first | done | with_reducible rfl
  try simp only [Act.put, List.getElem_toArray, List.getElem_cons_succ, List.getElem_cons_zero, List.setIfInBounds_toArray, List.set_cons_zero, List.set_cons_succ]
  refine wpAnyH_take (i := 21) (v := ?v16) rfl (by kernel_rfl) (by kernel_rfl) (by kernel_rfl) (fun _ _ _ h => h) (Or.inl ⟨by rfl, ?hy16⟩) hHeld ?rest16
  case hy16 =>
    intro w' hSw
    try dsimp only at hSw
    go_simp
    first | done | with_reducible rfl
  try simp only [Act.put, List.getElem_toArray, List.getElem_cons_succ, List.getElem_cons_zero, List.setIfInBounds_toArray, List.set_cons_zero, List.set_cons_succ]
  refine wpAnyH_ready (rs := [10, 25]) (by kernel_rfl) (by simp) ?_
  refine AllReadyH.cons (by rfl) (fun K hK => ?_) (AllReadyH.cons (by rfl) (fun K hK => ?_) AllReadyH.nil)
  · go_simp
    refine (rnum_at b off 2 2 _ l _ (by have := HL.out; omega) HR.out.drew (by decide)).mono ?_
    rintro e y1 ⟨rfl, rfl⟩
    clear hHeld
    go_wp2_with fail
    refine hK.out _ _ ⟨(rd2 HR.out.drew (by have := HL.out; omega)).1, (rd2 HR.out.drew (by have := HL.out; omega)).2, HR.out.drew⟩ (fun hHeld => ?_)
    clear hK K
    try simp only [Act.put, List.getElem_toArray, List.getElem_cons_succ, List.getElem_cons_zero, List.setIfInBounds_toArray, List.set_cons_zero, List.set_cons_succ]
    refine wpAnyH_take (i := 11) (v := ?v17) rfl (by kernel_rfl) (by kernel_rfl) (by kernel_rfl) (fun _ _ _ h => h) (Or.inl ⟨by rfl, ?hy17⟩) hHeld ?rest17
    case hy17 =>
      intro w' hSw
      try dsimp only at hSw
      go_simp
      first | done | with_reducible rfl
    try simp only [Act.put, List.getElem_toArray, List.getElem_cons_succ, List.getElem_cons_zero, List.setIfInBounds_toArray, List.set_cons_zero, List.set_cons_succ]
    refine wpAnyH_ready (rs := [14, 25]) (by kernel_rfl) (by simp) ?_
    refine AllReadyH.cons (by rfl) (fun K hK => ?_) (AllReadyH.cons (by rfl) (fun K hK => ?_) AllReadyH.nil)
    · go_simp
      refine (rnum_at b off 4 4 _ l _ (by have := HL.out; omega) HR.out.drew (by decide)).mono ?_
      rintro e y2 ⟨rfl, rfl⟩
      clear hHeld
      go_wp2_with fail
      refine hK.out _ _ ⟨(rd2 HR.out.drew (by have := HL.out; omega)).1, (rd2 HR.out.drew (by have := HL.out; omega)).2, HR.out.drew⟩ (fun hHeld => ?_)
      clear hK K
      try simp only [Act.put, List.getElem_toArray, List.getElem_cons_succ, List.getElem_cons_zero, List.setIfInBounds_toArray, List.set_cons_zero, List.set_cons_succ]
      refine wpAnyH_take (i := 15) (v := ?v18) rfl (by kernel_rfl) (by kernel_rfl) (by kernel_rfl) (fun _ _ _ h => h) (Or.inl ⟨by rfl, ?hy18⟩) hHeld ?rest18
      case hy18 =>
        intro w' hSw
        try dsimp only at hSw
        go_simp
        first | done | with_reducible rfl
      try simp only [Act.put, List.getElem_toArray, List.getElem_cons_succ, List.getElem_cons_zero, List.setIfInBounds_toArray, List.set_cons_zero, List.set_cons_succ]
      refine wpAnyH_ready (rs := [18, 25]) (by kernel_rfl) (by simp) ?_
      refine AllReadyH.cons (by rfl) (fun K hK => ?_) (AllReadyH.cons (by rfl) (fun K hK => ?_) AllReadyH.nil)
      · go_simp
        refine (rnum_at b off 8 4 _ l _ (by have := HL.out; omega) HR.out.drew (by decide)).mono ?_
        rintro e y3 ⟨rfl, rfl⟩
        clear hHeld
        go_wp2_with fail
        refine hK.out _ _ ⟨(rd2 HR.out.drew (by have := HL.out; omega)).1, (rd2 HR.out.drew (by have := HL.out; omega)).2, HR.out.drew⟩ (fun hHeld => ?_)
        clear hK K
        try simp only [Act.put, List.getElem_toArray, List.getElem_cons_succ, List.getElem_cons_zero, List.setIfInBounds_toArray, List.set_cons_zero, List.set_cons_succ]
        refine wpAnyH_take (i := 19) (v := ?v19) rfl (by kernel_rfl) (by kernel_rfl) (by kernel_rfl) (fun _ _ _ h => h) (Or.inl ⟨by rfl, ?hy19⟩) hHeld ?rest19
        case hy19 =>
          intro w' hSw
          try dsimp only at hSw
          go_simp
          first | done | with_reducible rfl
        try simp only [Act.put, List.getElem_toArray, List.getElem_cons_succ, List.getElem_cons_zero, List.setIfInBounds_toArray, List.set_cons_zero, List.set_cons_succ]
        refine wpAnyH_ready (rs := [22, 25]) (by kernel_rfl) (by simp) ?_
        refine AllReadyH.cons (by rfl) (fun K hK => ?_) (AllReadyH.cons (by rfl) (fun K hK => ?_) AllReadyH.nil)
        · go_simp
          refine (rnum_at b off 12 8 _ l _ (by have := HL.out; omega) HR.out.drew (by decide)).mono ?_
          rintro e y4 ⟨rfl, rfl⟩
          clear hHeld
          go_wp2_with fail
          refine hK.out _ _ ⟨(rd2 HR.out.drew (by have := HL.out; omega)).1, (rd2 HR.out.drew (by have := HL.out; omega)).2, HR.out.drew⟩ (fun hHeld => ?_)
          clear hK K
          try simp only [Act.put, List.getElem_toArray, List.getElem_cons_succ, List.getElem_cons_zero, List.setIfInBounds_toArray, List.set_cons_zero, List.set_cons_succ]
          refine wpAnyH_ready (rs := [23, 25]) (by kernel_rfl) (by simp) ?_
          refine AllReadyH.cons (by rfl) (fun K hK => ?_) (AllReadyH.cons (by rfl) (fun K hK => ?_) AllReadyH.nil)
          · go_simp
            refine (rsigned_any _ _ H8.out).mono ?_
            rintro e y5 ⟨rfl, rfl⟩
            clear hHeld
            go_wp2_with fail
            refine hK.out _ _ ⟨(rd2 HR.out.drew (by have := HL.out; omega)).1, (rd2 HR.out.drew (by have := HL.out; omega)).2, HR.out.drew⟩ (fun hHeld => ?_)
            clear hK K
            try simp only [Act.put, List.getElem_toArray, List.getElem_cons_succ, List.getElem_cons_zero, List.setIfInBounds_toArray, List.set_cons_zero, List.set_cons_succ]
            refine wpAnyH_take (i := 24) (v := ?v20) rfl (by kernel_rfl) (by kernel_rfl) (by kernel_rfl) (fun _ _ _ h => h) (Or.inl ⟨by rfl, ?hy20⟩) hHeld ?rest20
            case hy20 =>
              intro w' hSw
              try dsimp only at hSw
              go_simp
              first | done | with_reducible rfl
            try simp only [Act.put, List.getElem_toArray, List.getElem_cons_succ, List.getElem_cons_zero, List.setIfInBounds_toArray, List.set_cons_zero, List.set_cons_succ]
            refine wpAnyH_ready (rs := [25]) (by kernel_rfl) (by simp) ?_
            refine AllReadyH.cons (by rfl) (fun K hK => ?_) AllReadyH.nil
            go_simp
            clear hHeld
            refine hK.out _ _ ⟨(rd2 (HR.out.alloc (.cells (kl zk).toArray 25)).drew (by have := HL.out; omega)).1, (rd2 (HR.out.alloc (.cells (kl zk).toArray 25)).drew (by have := HL.out; omega)).2, (HR.out.alloc (.cells (kl zk).toArray 25)).drew⟩ (fun hHeld => ?_)
            clear hK K
            try simp only [Act.put, List.getElem_toArray, List.getElem_cons_succ, List.getElem_cons_zero, List.setIfInBounds_toArray, List.set_cons_zero, List.set_cons_succ]
            refine wpAnyH_ready (rs := [26]) (by kernel_rfl) (by simp) ?_
            refine AllReadyH.cons (by rfl) (fun K hK => ?_) AllReadyH.nil
            clear hHeld
            refine step_store_newd rfl 25 (.tmp 4) (.tmp 33) rfl (by first | rfl | (simp; rfl)) (kl (kof l)).toArray (kl zk).toArray rfl size25 rfl (kl_all _) ?_
            refine hK.out _ _ ⟨(rd2 (HR.out.alloc (.cells (kl (kof l)).toArray 25)).drew (by have := HL.out; omega)).1, (rd2 (HR.out.alloc (.cells (kl (kof l)).toArray 25)).drew (by have := HL.out; omega)).2, (HR.out.alloc (.cells (kl (kof l)).toArray 25)).drew⟩ (fun hHeld => ?_)
            clear hK K
            try simp only [Act.put, List.getElem_toArray, List.getElem_cons_succ, List.getElem_cons_zero]
            refine wpAnyH_done (by kernel_rfl) ?_ _
            refine OnlyN.normal ?_
            clear hHeld
            have hB := (HB.out.alloc HB.out.size (.cells (kl (kof l)).toArray 25)).drew
            have hK := Blk.drew (Blk.new_of (w.alloc (.cells (kl zk).toArray 25)) 25 (kl (kof l)).toArray (g := w.heap.size + 1) (by simp))
            have hZ := Blk.drew (Blk.alloc (Blk.new w 25 (kl zk).toArray) (.cells (kl (kof l)).toArray 25))
            have g0 : (kl (kof l))[0]? = some (.int .i64 (kof l).k) := rfl
            have g1 : (kl (kof l))[1]? = some (.int .i64 (kof l).o) := rfl
            have g2 : (kl (kof l))[2]? = some (.int .i64 (kof l).c) := rfl
            have g3 : (kl (kof l))[3]? = some (.int .i64 (kof l).l) := rfl
            have g4 : (kl (kof l))[4]? = some (.int .i64 (kof l).r) := rfl
            have g5 : (kl (kof l))[5]? = some (.int .i64 (kof l).v) := rfl
            have BW := Lib.hid hB
            have KW := Lib.hid hK
            have ZW := Lib.hid hZ
            clear hB hK hZ n2 n4 n8 n12 w1 w2 w3 w4 w8 l1 l2 l3 l4 l5
            go_wp2_with (first
              | (go_at_call 27; refine (rchk_any (kof l) _).mono ?_; rw [HC.out]; rintro e w9 ⟨rfl, hb⟩; have B9 := Lib.hid (BW.out.trans (hb.mono BW.out.size)); have Z9 := Lib.hid (Blk.keep ZW.out hb); obtain ⟨c0, c1, c2, c3, c4, c5⟩ := Blk.six (Blk.keep KW.out hb); clear hb)
              | (refine wpList_store_row rfl 25 (.tmp 2) (.tmp 38) rfl w.heap.size (kl (kof l)).toArray rfl rfl 25 (kl zk).toArray Z9.out size25 rfl (kl_all _) ?_))
            have h4 := setRow_heap w9 w.heap.size (kl zk).toArray (kl (kof l)).toArray 25 (0, 0) Z9.out
            have h5 : Below w.heap.size w (w9.setRow w.heap.size (kl (kof l)).toArray) := B9.out.trans (below_lt (setRow_fr w9 _ _) B9.out.size (fun j hj => by omega))
            exact bodyPost_ret (res_1t rfl _ _ w.heap.size _ _ rfl rfl (load_key (kof l) h4)) rfl ⟨rfl, h5⟩
          · go_simp
            clear hHeld
            refine hK.out _ _ ⟨(rd2 (HR.out.alloc (.cells (kl zk).toArray 25)).drew (by have := HL.out; omega)).1, (rd2 (HR.out.alloc (.cells (kl zk).toArray 25)).drew (by have := HL.out; omega)).2, (HR.out.alloc (.cells (kl zk).toArray 25)).drew⟩ (fun hHeld => ?_)
            clear hK K
            try simp only [Act.put, List.getElem_toArray, List.getElem_cons_succ, List.getElem_cons_zero, List.setIfInBounds_toArray, List.set_cons_zero, List.set_cons_succ]
            refine wpAnyH_ready (rs := [23]) (by kernel_rfl) (by simp) ?_
            refine AllReadyH.cons (by rfl) (fun K hK => ?_) AllReadyH.nil
            go_simp
            refine (rsigned_any _ _ H8.out).mono ?_
            rintro e y6 ⟨rfl, rfl⟩
            clear hHeld
            go_wp2_with fail
            refine hK.out _ _ ⟨(rd2 (HR.out.alloc (.cells (kl zk).toArray 25)).drew (by have := HL.out; omega)).1, (rd2 (HR.out.alloc (.cells (kl zk).toArray 25)).drew (by have := HL.out; omega)).2, (HR.out.alloc (.cells (kl zk).toArray 25)).drew⟩ (fun hHeld => ?_)
            clear hK K
            try simp only [Act.put, List.getElem_toArray, List.getElem_cons_succ, List.getElem_cons_zero, List.setIfInBounds_toArray, List.set_cons_zero, List.set_cons_succ]
            refine wpAnyH_take (i := 24) (v := ?v21) rfl (by kernel_rfl) (by kernel_rfl) (by kernel_rfl) (fun _ _ _ h => h) (Or.inl ⟨by rfl, ?hy21⟩) hHeld ?rest21
            case hy21 =>
              intro w' hSw
              try dsimp only at hSw
              go_simp
              first | done | with_reducible rfl
            try simp only [Act.put, List.getElem_toArray, List.getElem_cons_succ, List.getElem_cons_zero, List.setIfInBounds_toArray, List.set_cons_zero, List.set_cons_succ]
            refine wpAnyH_ready (rs := [26]) (by kernel_rfl) (by simp) ?_
            refine AllReadyH.cons (by rfl) (fun K hK => ?_) AllReadyH.nil
            clear hHeld
            refine step_store_newd rfl 25 (.tmp 4) (.tmp 33) rfl (by first | rfl | (simp; rfl)) (kl (kof l)).toArray (kl zk).toArray rfl size25 rfl (kl_all _) ?_
            refine hK.out _ _ ⟨(rd2 (HR.out.alloc (.cells (kl (kof l)).toArray 25)).drew (by have := HL.out; omega)).1, (rd2 (HR.out.alloc (.cells (kl (kof l)).toArray 25)).drew (by have := HL.out; omega)).2, (HR.out.alloc (.cells (kl (kof l)).toArray 25)).drew⟩ (fun hHeld => ?_)
            clear hK K
            try simp only [Act.put, List.getElem_toArray, List.getElem_cons_succ, List.getElem_cons_zero]
            refine wpAnyH_done (by kernel_rfl) ?_ _
            refine OnlyN.normal ?_
            clear hHeld
            have hB := (HB.out.alloc HB.out.size (.cells (kl (kof l)).toArray 25)).drew
            have hK := Blk.drew (Blk.new_of (w.alloc (.cells (kl zk).toArray 25)) 25 (kl (kof l)).toArray (g := w.heap.size + 1) (by simp))
            have hZ := Blk.drew (Blk.alloc (Blk.new w 25 (kl zk).toArray) (.cells (kl (kof l)).toArray 25))
            have g0 : (kl (kof l))[0]? = some (.int .i64 (kof l).k) := rfl
            have g1 : (kl (kof l))[1]? = some (.int .i64 (kof l).o) := rfl
            have g2 : (kl (kof l))[2]? = some (.int .i64 (kof l).c) := rfl
            have g3 : (kl (kof l))[3]? = some (.int .i64 (kof l).l) := rfl
            have g4 : (kl (kof l))[4]? = some (.int .i64 (kof l).r) := rfl
            have g5 : (kl (kof l))[5]? = some (.int .i64 (kof l).v) := rfl
            have BW := Lib.hid hB
            have KW := Lib.hid hK
            have ZW := Lib.hid hZ
            clear hB hK hZ n2 n4 n8 n12 w1 w2 w3 w4 w8 l1 l2 l3 l4 l5
            go_wp2_with (first
              | (go_at_call 27; refine (rchk_any (kof l) _).mono ?_; rw [HC.out]; rintro e w9 ⟨rfl, hb⟩; have B9 := Lib.hid (BW.out.trans (hb.mono BW.out.size)); have Z9 := Lib.hid (Blk.keep ZW.out hb); obtain ⟨c0, c1, c2, c3, c4, c5⟩ := Blk.six (Blk.keep KW.out hb); clear hb)
              | (refine wpList_store_row rfl 25 (.tmp 2) (.tmp 38) rfl w.heap.size (kl (kof l)).toArray rfl rfl 25 (kl zk).toArray Z9.out size25 rfl (kl_all _) ?_))
            have h4 := setRow_heap w9 w.heap.size (kl zk).toArray (kl (kof l)).toArray 25 (0, 0) Z9.out
            have h5 : Below w.heap.size w (w9.setRow w.heap.size (kl (kof l)).toArray) := B9.out.trans (below_lt (setRow_fr w9 _ _) B9.out.size (fun j hj => by omega))
            exact bodyPost_ret (res_1t rfl _ _ w.heap.size _ _ rfl rfl (load_key (kof l) h4)) rfl ⟨rfl, h5⟩
        · go_simp
          clear hHeld
          refine hK.out _ _ ⟨(rd2 (HR.out.alloc (.cells (kl zk).toArray 25)).drew (by have := HL.out; omega)).1, (rd2 (HR.out.alloc (.cells (kl zk).toArray 25)).drew (by have := HL.out; omega)).2, (HR.out.alloc (.cells (kl zk).toArray 25)).drew⟩ (fun hHeld => ?_)
          clear hK K
          try simp only [Act.put, List.getElem_toArray, List.getElem_cons_succ, List.getElem_cons_zero, List.setIfInBounds_toArray, List.set_cons_zero, List.set_cons_succ]
          refine wpAnyH_ready (rs := [22]) (by kernel_rfl) (by simp) ?_
          refine AllReadyH.cons (by rfl) (fun K hK => ?_) AllReadyH.nil
          go_simp
          refine (rnum_at b off 12 8 _ l _ (by have := HL.out; omega) (HR.out.alloc (.cells (kl zk).toArray 25)).drew (by decide)).mono ?_
          rintro e y7 ⟨rfl, rfl⟩
          clear hHeld
          go_wp2_with fail
          refine hK.out _ _ ⟨(rd2 (HR.out.alloc (.cells (kl zk).toArray 25)).drew (by have := HL.out; omega)).1, (rd2 (HR.out.alloc (.cells (kl zk).toArray 25)).drew (by have := HL.out; omega)).2, (HR.out.alloc (.cells (kl zk).toArray 25)).drew⟩ (fun hHeld => ?_)
          clear hK K
          try simp only [Act.put, List.getElem_toArray, List.getElem_cons_succ, List.getElem_cons_zero, List.setIfInBounds_toArray, List.set_cons_zero, List.set_cons_succ]
          refine wpAnyH_ready (rs := [23]) (by kernel_rfl) (by simp) ?_
          refine AllReadyH.cons (by rfl) (fun K hK => ?_) AllReadyH.nil
          go_simp
          refine (rsigned_any _ _ H8.out).mono ?_
          rintro e y8 ⟨rfl, rfl⟩
          clear hHeld
          go_wp2_with fail
          refine hK.out _ _ ⟨(rd2 (HR.out.alloc (.cells (kl zk).toArray 25)).drew (by have := HL.out; omega)).1, (rd2 (HR.out.alloc (.cells (kl zk).toArray 25)).drew (by have := HL.out; omega)).2, (HR.out.alloc (.cells (kl zk).toArray 25)).drew⟩ (fun hHeld => ?_)
          clear hK K
          try simp only [Act.put, List.getElem_toArray, List.getElem_cons_succ, List.getElem_cons_zero, List.setIfInBounds_toArray, List.set_cons_zero, List.set_cons_succ]
          refine wpAnyH_take (i := 24) (v := ?v22) rfl (by kernel_rfl) (by kernel_rfl) (by kernel_rfl) (fun _ _ _ h => h) (Or.inl ⟨by rfl, ?hy22⟩) hHeld ?rest22
          case hy22 =>
            intro w' hSw
            try dsimp only at hSw
            go_simp
            first | done | with_reducible rfl
          try simp only [Act.put, List.getElem_toArray, List.getElem_cons_succ, List.getElem_cons_zero, List.setIfInBounds_toArray, List.set_cons_zero, List.set_cons_succ]
          refine wpAnyH_ready (rs := [26]) (by kernel_rfl) (by simp) ?_
          refine AllReadyH.cons (by rfl) (fun K hK => ?_) AllReadyH.nil
          clear hHeld
          refine step_store_newd rfl 25 (.tmp 4) (.tmp 33) rfl (by first | rfl | (simp; rfl)) (kl (kof l)).toArray (kl zk).toArray rfl size25 rfl (kl_all _) ?_
          refine hK.out _ _ ⟨(rd2 (HR.out.alloc (.cells (kl (kof l)).toArray 25)).drew (by have := HL.out; omega)).1, (rd2 (HR.out.alloc (.cells (kl (kof l)).toArray 25)).drew (by have := HL.out; omega)).2, (HR.out.alloc (.cells (kl (kof l)).toArray 25)).drew⟩ (fun hHeld => ?_)
          clear hK K
          try simp only [Act.put, List.getElem_toArray, List.getElem_cons_succ, List.getElem_cons_zero]
          refine wpAnyH_done (by kernel_rfl) ?_ _
          refine OnlyN.normal ?_
          clear hHeld
          have hB := (HB.out.alloc HB.out.size (.cells (kl (kof l)).toArray 25)).drew
          have hK := Blk.drew (Blk.new_of (w.alloc (.cells (kl zk).toArray 25)) 25 (kl (kof l)).toArray (g := w.heap.size + 1) (by simp))
          have hZ := Blk.drew (Blk.alloc (Blk.new w 25 (kl zk).toArray) (.cells (kl (kof l)).toArray 25))
          have g0 : (kl (kof l))[0]? = some (.int .i64 (kof l).k) := rfl
          have g1 : (kl (kof l))[1]? = some (.int .i64 (kof l).o) := rfl
          have g2 : (kl (kof l))[2]? = some (.int .i64 (kof l).c) := rfl
          have g3 : (kl (kof l))[3]? = some (.int .i64 (kof l).l) := rfl
          have g4 : (kl (kof l))[4]? = some (.int .i64 (kof l).r) := rfl
          have g5 : (kl (kof l))[5]? = some (.int .i64 (kof l).v) := rfl
          have BW := Lib.hid hB
          have KW := Lib.hid hK
          have ZW := Lib.hid hZ
          clear hB hK hZ n2 n4 n8 n12 w1 w2 w3 w4 w8 l1 l2 l3 l4 l5
          go_wp2_with (first
            | (go_at_call 27; refine (rchk_any (kof l) _).mono ?_; rw [HC.out]; rintro e w9 ⟨rfl, hb⟩; have B9 := Lib.hid (BW.out.trans (hb.mono BW.out.size)); have Z9 := Lib.hid (Blk.keep ZW.out hb); obtain ⟨c0, c1, c2, c3, c4, c5⟩ := Blk.six (Blk.keep KW.out hb); clear hb)
            | (refine wpList_store_row rfl 25 (.tmp 2) (.tmp 38) rfl w.heap.size (kl (kof l)).toArray rfl rfl 25 (kl zk).toArray Z9.out size25 rfl (kl_all _) ?_))
          have h4 := setRow_heap w9 w.heap.size (kl zk).toArray (kl (kof l)).toArray 25 (0, 0) Z9.out
          have h5 : Below w.heap.size w (w9.setRow w.heap.size (kl (kof l)).toArray) := B9.out.trans (below_lt (setRow_fr w9 _ _) B9.out.size (fun j hj => by omega))
          exact bodyPost_ret (res_1t rfl _ _ w.heap.size _ _ rfl rfl (load_key (kof l) h4)) rfl ⟨rfl, h5⟩
      · go_simp
        clear hHeld
        refine hK.out _ _ ⟨(rd2 (HR.out.alloc (.cells (kl zk).toArray 25)).drew (by have := HL.out; omega)).1, (rd2 (HR.out.alloc (.cells (kl zk).toArray 25)).drew (by have := HL.out; omega)).2, (HR.out.alloc (.cells (kl zk).toArray 25)).drew⟩ (fun hHeld => ?_)
        clear hK K
        try simp only [Act.put, List.getElem_toArray, List.getElem_cons_succ, List.getElem_cons_zero, List.setIfInBounds_toArray, List.set_cons_zero, List.set_cons_succ]
        refine wpAnyH_ready (rs := [18]) (by kernel_rfl) (by simp) ?_
        refine AllReadyH.cons (by rfl) (fun K hK => ?_) AllReadyH.nil
        go_simp
        refine (rnum_at b off 8 4 _ l _ (by have := HL.out; omega) (HR.out.alloc (.cells (kl zk).toArray 25)).drew (by decide)).mono ?_
        rintro e y9 ⟨rfl, rfl⟩
        clear hHeld
        go_wp2_with fail
        refine hK.out _ _ ⟨(rd2 (HR.out.alloc (.cells (kl zk).toArray 25)).drew (by have := HL.out; omega)).1, (rd2 (HR.out.alloc (.cells (kl zk).toArray 25)).drew (by have := HL.out; omega)).2, (HR.out.alloc (.cells (kl zk).toArray 25)).drew⟩ (fun hHeld => ?_)
        clear hK K
        try simp only [Act.put, List.getElem_toArray, List.getElem_cons_succ, List.getElem_cons_zero, List.setIfInBounds_toArray, List.set_cons_zero, List.set_cons_succ]
        refine wpAnyH_take (i := 19) (v := ?v23) rfl (by kernel_rfl) (by kernel_rfl) (by kernel_rfl) (fun _ _ _ h => h) (Or.inl ⟨by rfl, ?hy23⟩) hHeld ?rest23
        case hy23 =>
          intro w' hSw
          try dsimp only at hSw
          go_simp
          first | done | with_reducible rfl
        try simp only [Act.put, List.getElem_toArray, List.getElem_cons_succ, List.getElem_cons_zero, List.setIfInBounds_toArray, List.set_cons_zero, List.set_cons_succ]
        refine wpAnyH_ready (rs := [22]) (by kernel_rfl) (by simp) ?_
        refine AllReadyH.cons (by rfl) (fun K hK => ?_) AllReadyH.nil
        go_simp
        refine (rnum_at b off 12 8 _ l _ (by have := HL.out; omega) (HR.out.alloc (.cells (kl zk).toArray 25)).drew (by decide)).mono ?_
        rintro e y10 ⟨rfl, rfl⟩
        clear hHeld
        go_wp2_with fail
        refine hK.out _ _ ⟨(rd2 (HR.out.alloc (.cells (kl zk).toArray 25)).drew (by have := HL.out; omega)).1, (rd2 (HR.out.alloc (.cells (kl zk).toArray 25)).drew (by have := HL.out; omega)).2, (HR.out.alloc (.cells (kl zk).toArray 25)).drew⟩ (fun hHeld => ?_)
        clear hK K
        try simp only [Act.put, List.getElem_toArray, List.getElem_cons_succ, List.getElem_cons_zero, List.setIfInBounds_toArray, List.set_cons_zero, List.set_cons_succ]
        refine wpAnyH_ready (rs := [23]) (by kernel_rfl) (by simp) ?_
        refine AllReadyH.cons (by rfl) (fun K hK => ?_) AllReadyH.nil
        go_simp
        refine (rsigned_any _ _ H8.out).mono ?_
        rintro e y11 ⟨rfl, rfl⟩
        clear hHeld
        go_wp2_with fail
        refine hK.out _ _ ⟨(rd2 (HR.out.alloc (.cells (kl zk).toArray 25)).drew (by have := HL.out; omega)).1, (rd2 (HR.out.alloc (.cells (kl zk).toArray 25)).drew (by have := HL.out; omega)).2, (HR.out.alloc (.cells (kl zk).toArray 25)).drew⟩ (fun hHeld => ?_)
        clear hK K
        try simp only [Act.put, List.getElem_toArray, List.getElem_cons_succ, List.getElem_cons_zero, List.setIfInBounds_toArray, List.set_cons_zero, List.set_cons_succ]
        refine wpAnyH_take (i := 24) (v := ?v24) rfl (by kernel_rfl) (by kernel_rfl) (by kernel_rfl) (fun _ _ _ h => h) (Or.inl ⟨by rfl, ?hy24⟩) hHeld ?rest24
        case hy24 =>
          intro w' hSw
          try dsimp only at hSw
          go_simp
          first | done | with_reducible rfl
        try simp only [Act.put, List.getElem_toArray, List.getElem_cons_succ, List.getElem_cons_zero, List.setIfInBounds_toArray, List.set_cons_zero, List.set_cons_succ]
        refine wpAnyH_ready (rs := [26]) (by kernel_rfl) (by simp) ?_
        refine AllReadyH.cons (by rfl) (fun K hK => ?_) AllReadyH.nil
        clear hHeld
        refine step_store_newd rfl 25 (.tmp 4) (.tmp 33) rfl (by first | rfl | (simp; rfl)) (kl (kof l)).toArray (kl zk).toArray rfl size25 rfl (kl_all _) ?_
        refine hK.out _ _ ⟨(rd2 (HR.out.alloc (.cells (kl (kof l)).toArray 25)).drew (by have := HL.out; omega)).1, (rd2 (HR.out.alloc (.cells (kl (kof l)).toArray 25)).drew (by have := HL.out; omega)).2, (HR.out.alloc (.cells (kl (kof l)).toArray 25)).drew⟩ (fun hHeld => ?_)
        clear hK K
        try simp only [Act.put, List.getElem_toArray, List.getElem_cons_succ, List.getElem_cons_zero]
        refine wpAnyH_done (by kernel_rfl) ?_ _
        refine OnlyN.normal ?_
        clear hHeld
        have hB := (HB.out.alloc HB.out.size (.cells (kl (kof l)).toArray 25)).drew
        have hK := Blk.drew (Blk.new_of (w.alloc (.cells (kl zk).toArray 25)) 25 (kl (kof l)).toArray (g := w.heap.size + 1) (by simp))
        have hZ := Blk.drew (Blk.alloc (Blk.new w 25 (kl zk).toArray) (.cells (kl (kof l)).toArray 25))
        have g0 : (kl (kof l))[0]? = some (.int .i64 (kof l).k) := rfl
        have g1 : (kl (kof l))[1]? = some (.int .i64 (kof l).o) := rfl
        have g2 : (kl (kof l))[2]? = some (.int .i64 (kof l).c) := rfl
        have g3 : (kl (kof l))[3]? = some (.int .i64 (kof l).l) := rfl
        have g4 : (kl (kof l))[4]? = some (.int .i64 (kof l).r) := rfl
        have g5 : (kl (kof l))[5]? = some (.int .i64 (kof l).v) := rfl
        have BW := Lib.hid hB
        have KW := Lib.hid hK
        have ZW := Lib.hid hZ
        clear hB hK hZ n2 n4 n8 n12 w1 w2 w3 w4 w8 l1 l2 l3 l4 l5
        go_wp2_with (first
          | (go_at_call 27; refine (rchk_any (kof l) _).mono ?_; rw [HC.out]; rintro e w9 ⟨rfl, hb⟩; have B9 := Lib.hid (BW.out.trans (hb.mono BW.out.size)); have Z9 := Lib.hid (Blk.keep ZW.out hb); obtain ⟨c0, c1, c2, c3, c4, c5⟩ := Blk.six (Blk.keep KW.out hb); clear hb)
          | (refine wpList_store_row rfl 25 (.tmp 2) (.tmp 38) rfl w.heap.size (kl (kof l)).toArray rfl rfl 25 (kl zk).toArray Z9.out size25 rfl (kl_all _) ?_))
        have h4 := setRow_heap w9 w.heap.size (kl zk).toArray (kl (kof l)).toArray 25 (0, 0) Z9.out
        have h5 : Below w.heap.size w (w9.setRow w.heap.size (kl (kof l)).toArray) := B9.out.trans (below_lt (setRow_fr w9 _ _) B9.out.size (fun j hj => by omega))
        exact bodyPost_ret (res_1t rfl _ _ w.heap.size _ _ rfl rfl (load_key (kof l) h4)) rfl ⟨rfl, h5⟩
    · go_simp
      clear hHeld
      refine hK.out _ _ ⟨(rd2 (HR.out.alloc (.cells (kl zk).toArray 25)).drew (by have := HL.out; omega)).1, (rd2 (HR.out.alloc (.cells (kl zk).toArray 25)).drew (by have := HL.out; omega)).2, (HR.out.alloc (.cells (kl zk).toArray 25)).drew⟩ (fun hHeld => ?_)
      clear hK K
      try simp only [Act.put, List.getElem_toArray, List.getElem_cons_succ, List.getElem_cons_zero, List.setIfInBounds_toArray, List.set_cons_zero, List.set_cons_succ]
      refine wpAnyH_ready (rs := [14]) (by kernel_rfl) (by simp) ?_
      refine AllReadyH.cons (by rfl) (fun K hK => ?_) AllReadyH.nil
      go_simp
      refine (rnum_at b off 4 4 _ l _ (by have := HL.out; omega) (HR.out.alloc (.cells (kl zk).toArray 25)).drew (by decide)).mono ?_
      rintro e y12 ⟨rfl, rfl⟩
      clear hHeld
      go_wp2_with fail
      refine hK.out _ _ ⟨(rd2 (HR.out.alloc (.cells (kl zk).toArray 25)).drew (by have := HL.out; omega)).1, (rd2 (HR.out.alloc (.cells (kl zk).toArray 25)).drew (by have := HL.out; omega)).2, (HR.out.alloc (.cells (kl zk).toArray 25)).drew⟩ (fun hHeld => ?_)
      clear hK K
      try simp only [Act.put, List.getElem_toArray, List.getElem_cons_succ, List.getElem_cons_zero, List.setIfInBounds_toArray, List.set_cons_zero, List.set_cons_succ]
      refine wpAnyH_take (i := 15) (v := ?v25) rfl (by kernel_rfl) (by kernel_rfl) (by kernel_rfl) (fun _ _ _ h => h) (Or.inl ⟨by rfl, ?hy25⟩) hHeld ?rest25
      case hy25 =>
        intro w' hSw
        try dsimp only at hSw
        go_simp
        first | done | with_reducible rfl
      try simp only [Act.put, List.getElem_toArray, List.getElem_cons_succ, List.getElem_cons_zero, List.setIfInBounds_toArray, List.set_cons_zero, List.set_cons_succ]
      refine wpAnyH_ready (rs := [18]) (by kernel_rfl) (by simp) ?_
      refine AllReadyH.cons (by rfl) (fun K hK => ?_) AllReadyH.nil
      go_simp
      refine (rnum_at b off 8 4 _ l _ (by have := HL.out; omega) (HR.out.alloc (.cells (kl zk).toArray 25)).drew (by decide)).mono ?_
      rintro e y13 ⟨rfl, rfl⟩
      clear hHeld
      go_wp2_with fail
      refine hK.out _ _ ⟨(rd2 (HR.out.alloc (.cells (kl zk).toArray 25)).drew (by have := HL.out; omega)).1, (rd2 (HR.out.alloc (.cells (kl zk).toArray 25)).drew (by have := HL.out; omega)).2, (HR.out.alloc (.cells (kl zk).toArray 25)).drew⟩ (fun hHeld => ?_)
      clear hK K
      try simp only [Act.put, List.getElem_toArray, List.getElem_cons_succ, List.getElem_cons_zero, List.setIfInBounds_toArray, List.set_cons_zero, List.set_cons_succ]
      refine wpAnyH_take (i := 19) (v := ?v26) rfl (by kernel_rfl) (by kernel_rfl) (by kernel_rfl) (fun _ _ _ h => h) (Or.inl ⟨by rfl, ?hy26⟩) hHeld ?rest26
      case hy26 =>
        intro w' hSw
        try dsimp only at hSw
        go_simp
        first | done | with_reducible rfl
      try simp only [Act.put, List.getElem_toArray, List.getElem_cons_succ, List.getElem_cons_zero, List.setIfInBounds_toArray, List.set_cons_zero, List.set_cons_succ]
      refine wpAnyH_ready (rs := [22]) (by kernel_rfl) (by simp) ?_
      refine AllReadyH.cons (by rfl) (fun K hK => ?_) AllReadyH.nil
      go_simp
      refine (rnum_at b off 12 8 _ l _ (by have := HL.out; omega) (HR.out.alloc (.cells (kl zk).toArray 25)).drew (by decide)).mono ?_
      rintro e y14 ⟨rfl, rfl⟩
      clear hHeld
      go_wp2_with fail
      refine hK.out _ _ ⟨(rd2 (HR.out.alloc (.cells (kl zk).toArray 25)).drew (by have := HL.out; omega)).1, (rd2 (HR.out.alloc (.cells (kl zk).toArray 25)).drew (by have := HL.out; omega)).2, (HR.out.alloc (.cells (kl zk).toArray 25)).drew⟩ (fun hHeld => ?_)
      clear hK K
      try simp only [Act.put, List.getElem_toArray, List.getElem_cons_succ, List.getElem_cons_zero, List.setIfInBounds_toArray, List.set_cons_zero, List.set_cons_succ]
      refine wpAnyH_ready (rs := [23]) (by kernel_rfl) (by simp) ?_
      refine AllReadyH.cons (by rfl) (fun K hK => ?_) AllReadyH.nil
      go_simp
      refine (rsigned_any _ _ H8.out).mono ?_
      rintro e y15 ⟨rfl, rfl⟩
      clear hHeld
      go_wp2_with fail
      refine hK.out _ _ ⟨(rd2 (HR.out.alloc (.cells (kl zk).toArray 25)).drew (by have := HL.out; omega)).1, (rd2 (HR.out.alloc (.cells (kl zk).toArray 25)).drew (by have := HL.out; omega)).2, (HR.out.alloc (.cells (kl zk).toArray 25)).drew⟩ (fun hHeld => ?_)
      clear hK K
      try simp only [Act.put, List.getElem_toArray, List.getElem_cons_succ, List.getElem_cons_zero, List.setIfInBounds_toArray, List.set_cons_zero, List.set_cons_succ]
      refine wpAnyH_take (i := 24) (v := ?v27) rfl (by kernel_rfl) (by kernel_rfl) (by kernel_rfl) (fun _ _ _ h => h) (Or.inl ⟨by rfl, ?hy27⟩) hHeld ?rest27
      case hy27 =>
        intro w' hSw
        try dsimp only at hSw
        go_simp
        first | done | with_reducible rfl
      try simp only [Act.put, List.getElem_toArray, List.getElem_cons_succ, List.getElem_cons_zero, List.setIfInBounds_toArray, List.set_cons_zero, List.set_cons_succ]
      refine wpAnyH_ready (rs := [26]) (by kernel_rfl) (by simp) ?_
      refine AllReadyH.cons (by rfl) (fun K hK => ?_) AllReadyH.nil
      clear hHeld
      refine step_store_newd rfl 25 (.tmp 4) (.tmp 33) rfl (by first | rfl | (simp; rfl)) (kl (kof l)).toArray (kl zk).toArray rfl size25 rfl (kl_all _) ?_
      refine hK.out _ _ ⟨(rd2 (HR.out.alloc (.cells (kl (kof l)).toArray 25)).drew (by have := HL.out; omega)).1, (rd2 (HR.out.alloc (.cells (kl (kof l)).toArray 25)).drew (by have := HL.out; omega)).2, (HR.out.alloc (.cells (kl (kof l)).toArray 25)).drew⟩ (fun hHeld => ?_)
      clear hK K
      try simp only [Act.put, List.getElem_toArray, List.getElem_cons_succ, List.getElem_cons_zero]
      refine wpAnyH_done (by kernel_rfl) ?_ _
      refine OnlyN.normal ?_
      clear hHeld
      have hB := (HB.out.alloc HB.out.size (.cells (kl (kof l)).toArray 25)).drew
      have hK := Blk.drew (Blk.new_of (w.alloc (.cells (kl zk).toArray 25)) 25 (kl (kof l)).toArray (g := w.heap.size + 1) (by simp))
      have hZ := Blk.drew (Blk.alloc (Blk.new w 25 (kl zk).toArray) (.cells (kl (kof l)).toArray 25))
      have g0 : (kl (kof l))[0]? = some (.int .i64 (kof l).k) := rfl
      have g1 : (kl (kof l))[1]? = some (.int .i64 (kof l).o) := rfl
      have g2 : (kl (kof l))[2]? = some (.int .i64 (kof l).c) := rfl
      have g3 : (kl (kof l))[3]? = some (.int .i64 (kof l).l) := rfl
      have g4 : (kl (kof l))[4]? = some (.int .i64 (kof l).r) := rfl
      have g5 : (kl (kof l))[5]? = some (.int .i64 (kof l).v) := rfl
      have BW := Lib.hid hB
      have KW := Lib.hid hK
      have ZW := Lib.hid hZ
      clear hB hK hZ n2 n4 n8 n12 w1 w2 w3 w4 w8 l1 l2 l3 l4 l5
      go_wp2_with (first
        | (go_at_call 27; refine (rchk_any (kof l) _).mono ?_; rw [HC.out]; rintro e w9 ⟨rfl, hb⟩; have B9 := Lib.hid (BW.out.trans (hb.mono BW.out.size)); have Z9 := Lib.hid (Blk.keep ZW.out hb); obtain ⟨c0, c1, c2, c3, c4, c5⟩ := Blk.six (Blk.keep KW.out hb); clear hb)
        | (refine wpList_store_row rfl 25 (.tmp 2) (.tmp 38) rfl w.heap.size (kl (kof l)).toArray rfl rfl 25 (kl zk).toArray Z9.out size25 rfl (kl_all _) ?_))
      have h4 := setRow_heap w9 w.heap.size (kl zk).toArray (kl (kof l)).toArray 25 (0, 0) Z9.out
      have h5 : Below w.heap.size w (w9.setRow w.heap.size (kl (kof l)).toArray) := B9.out.trans (below_lt (setRow_fr w9 _ _) B9.out.size (fun j hj => by omega))
      exact bodyPost_ret (res_1t rfl _ _ w.heap.size _ _ rfl rfl (load_key (kof l) h4)) rfl ⟨rfl, h5⟩
  · go_simp
    clear hHeld
    refine hK.out _ _ ⟨(rd2 (HR.out.alloc (.cells (kl zk).toArray 25)).drew (by have := HL.out; omega)).1, (rd2 (HR.out.alloc (.cells (kl zk).toArray 25)).drew (by have := HL.out; omega)).2, (HR.out.alloc (.cells (kl zk).toArray 25)).drew⟩ (fun hHeld => ?_)
    clear hK K
    try simp only [Act.put, List.getElem_toArray, List.getElem_cons_succ, List.getElem_cons_zero, List.setIfInBounds_toArray, List.set_cons_zero, List.set_cons_succ]
    refine wpAnyH_ready (rs := [10]) (by kernel_rfl) (by simp) ?_
    refine AllReadyH.cons (by rfl) (fun K hK => ?_) AllReadyH.nil
    go_simp
    refine (rnum_at b off 2 2 _ l _ (by have := HL.out; omega) (HR.out.alloc (.cells (kl zk).toArray 25)).drew (by decide)).mono ?_
    rintro e y16 ⟨rfl, rfl⟩
    clear hHeld
    go_wp2_with fail
    refine hK.out _ _ ⟨(rd2 (HR.out.alloc (.cells (kl zk).toArray 25)).drew (by have := HL.out; omega)).1, (rd2 (HR.out.alloc (.cells (kl zk).toArray 25)).drew (by have := HL.out; omega)).2, (HR.out.alloc (.cells (kl zk).toArray 25)).drew⟩ (fun hHeld => ?_)
    clear hK K
    try simp only [Act.put, List.getElem_toArray, List.getElem_cons_succ, List.getElem_cons_zero, List.setIfInBounds_toArray, List.set_cons_zero, List.set_cons_succ]
    refine wpAnyH_take (i := 11) (v := ?v28) rfl (by kernel_rfl) (by kernel_rfl) (by kernel_rfl) (fun _ _ _ h => h) (Or.inl ⟨by rfl, ?hy28⟩) hHeld ?rest28
    case hy28 =>
      intro w' hSw
      try dsimp only at hSw
      go_simp
      first | done | with_reducible rfl
    try simp only [Act.put, List.getElem_toArray, List.getElem_cons_succ, List.getElem_cons_zero, List.setIfInBounds_toArray, List.set_cons_zero, List.set_cons_succ]
    refine wpAnyH_ready (rs := [14]) (by kernel_rfl) (by simp) ?_
    refine AllReadyH.cons (by rfl) (fun K hK => ?_) AllReadyH.nil
    go_simp
    refine (rnum_at b off 4 4 _ l _ (by have := HL.out; omega) (HR.out.alloc (.cells (kl zk).toArray 25)).drew (by decide)).mono ?_
    rintro e y17 ⟨rfl, rfl⟩
    clear hHeld
    go_wp2_with fail
    refine hK.out _ _ ⟨(rd2 (HR.out.alloc (.cells (kl zk).toArray 25)).drew (by have := HL.out; omega)).1, (rd2 (HR.out.alloc (.cells (kl zk).toArray 25)).drew (by have := HL.out; omega)).2, (HR.out.alloc (.cells (kl zk).toArray 25)).drew⟩ (fun hHeld => ?_)
    clear hK K
    try simp only [Act.put, List.getElem_toArray, List.getElem_cons_succ, List.getElem_cons_zero, List.setIfInBounds_toArray, List.set_cons_zero, List.set_cons_succ]
    refine wpAnyH_take (i := 15) (v := ?v29) rfl (by kernel_rfl) (by kernel_rfl) (by kernel_rfl) (fun _ _ _ h => h) (Or.inl ⟨by rfl, ?hy29⟩) hHeld ?rest29
    case hy29 =>
      intro w' hSw
      try dsimp only at hSw
      go_simp
      first | done | with_reducible rfl
    try simp only [Act.put, List.getElem_toArray, List.getElem_cons_succ, List.getElem_cons_zero, List.setIfInBounds_toArray, List.set_cons_zero, List.set_cons_succ]
    refine wpAnyH_ready (rs := [18]) (by kernel_rfl) (by simp) ?_
    refine AllReadyH.cons (by rfl) (fun K hK => ?_) AllReadyH.nil
    go_simp
    refine (rnum_at b off 8 4 _ l _ (by have := HL.out; omega) (HR.out.alloc (.cells (kl zk).toArray 25)).drew (by decide)).mono ?_
    rintro e y18 ⟨rfl, rfl⟩
    clear hHeld
    go_wp2_with fail
    refine hK.out _ _ ⟨(rd2 (HR.out.alloc (.cells (kl zk).toArray 25)).drew (by have := HL.out; omega)).1, (rd2 (HR.out.alloc (.cells (kl zk).toArray 25)).drew (by have := HL.out; omega)).2, (HR.out.alloc (.cells (kl zk).toArray 25)).drew⟩ (fun hHeld => ?_)
    clear hK K
    try simp only [Act.put, List.getElem_toArray, List.getElem_cons_succ, List.getElem_cons_zero, List.setIfInBounds_toArray, List.set_cons_zero, List.set_cons_succ]
    refine wpAnyH_take (i := 19) (v := ?v30) rfl (by kernel_rfl) (by kernel_rfl) (by kernel_rfl) (fun _ _ _ h => h) (Or.inl ⟨by rfl, ?hy30⟩) hHeld ?rest30
    case hy30 =>
      intro w' hSw
      try dsimp only at hSw
      go_simp
      first | done | with_reducible rfl
    try simp only [Act.put, List.getElem_toArray, List.getElem_cons_succ, List.getElem_cons_zero, List.setIfInBounds_toArray, List.set_cons_zero, List.set_cons_succ]
    refine wpAnyH_ready (rs := [22]) (by kernel_rfl) (by simp) ?_
    refine AllReadyH.cons (by rfl) (fun K hK => ?_) AllReadyH.nil
    go_simp
    refine (rnum_at b off 12 8 _ l _ (by have := HL.out; omega) (HR.out.alloc (.cells (kl zk).toArray 25)).drew (by decide)).mono ?_
    rintro e y19 ⟨rfl, rfl⟩
    clear hHeld
    go_wp2_with fail
    refine hK.out _ _ ⟨(rd2 (HR.out.alloc (.cells (kl zk).toArray 25)).drew (by have := HL.out; omega)).1, (rd2 (HR.out.alloc (.cells (kl zk).toArray 25)).drew (by have := HL.out; omega)).2, (HR.out.alloc (.cells (kl zk).toArray 25)).drew⟩ (fun hHeld => ?_)
    clear hK K
    try simp only [Act.put, List.getElem_toArray, List.getElem_cons_succ, List.getElem_cons_zero, List.setIfInBounds_toArray, List.set_cons_zero, List.set_cons_succ]
    refine wpAnyH_ready (rs := [23]) (by kernel_rfl) (by simp) ?_
    refine AllReadyH.cons (by rfl) (fun K hK => ?_) AllReadyH.nil
    go_simp
    refine (rsigned_any _ _ H8.out).mono ?_
    rintro e y20 ⟨rfl, rfl⟩
    clear hHeld
    go_wp2_with fail
    refine hK.out _ _ ⟨(rd2 (HR.out.alloc (.cells (kl zk).toArray 25)).drew (by have := HL.out; omega)).1, (rd2 (HR.out.alloc (.cells (kl zk).toArray 25)).drew (by have := HL.out; omega)).2, (HR.out.alloc (.cells (kl zk).toArray 25)).drew⟩ (fun hHeld => ?_)
    clear hK K
    try simp only [Act.put, List.getElem_toArray, List.getElem_cons_succ, List.getElem_cons_zero, List.setIfInBounds_toArray, List.set_cons_zero, List.set_cons_succ]
    refine wpAnyH_take (i := 24) (v := ?v31) rfl (by kernel_rfl) (by kernel_rfl) (by kernel_rfl) (fun _ _ _ h => h) (Or.inl ⟨by rfl, ?hy31⟩) hHeld ?rest31
    case hy31 =>
      intro w' hSw
      try dsimp only at hSw
      go_simp
      first | done | with_reducible rfl
    try simp only [Act.put, List.getElem_toArray, List.getElem_cons_succ, List.getElem_cons_zero, List.setIfInBounds_toArray, List.set_cons_zero, List.set_cons_succ]
    refine wpAnyH_ready (rs := [26]) (by kernel_rfl) (by simp) ?_
    refine AllReadyH.cons (by rfl) (fun K hK => ?_) AllReadyH.nil
    clear hHeld
    refine step_store_newd rfl 25 (.tmp 4) (.tmp 33) rfl (by first | rfl | (simp; rfl)) (kl (kof l)).toArray (kl zk).toArray rfl size25 rfl (kl_all _) ?_
    refine hK.out _ _ ⟨(rd2 (HR.out.alloc (.cells (kl (kof l)).toArray 25)).drew (by have := HL.out; omega)).1, (rd2 (HR.out.alloc (.cells (kl (kof l)).toArray 25)).drew (by have := HL.out; omega)).2, (HR.out.alloc (.cells (kl (kof l)).toArray 25)).drew⟩ (fun hHeld => ?_)
    clear hK K
    try simp only [Act.put, List.getElem_toArray, List.getElem_cons_succ, List.getElem_cons_zero]
    refine wpAnyH_done (by kernel_rfl) ?_ _
    refine OnlyN.normal ?_
    clear hHeld
    have hB := (HB.out.alloc HB.out.size (.cells (kl (kof l)).toArray 25)).drew
    have hK := Blk.drew (Blk.new_of (w.alloc (.cells (kl zk).toArray 25)) 25 (kl (kof l)).toArray (g := w.heap.size + 1) (by simp))
    have hZ := Blk.drew (Blk.alloc (Blk.new w 25 (kl zk).toArray) (.cells (kl (kof l)).toArray 25))
    have g0 : (kl (kof l))[0]? = some (.int .i64 (kof l).k) := rfl
    have g1 : (kl (kof l))[1]? = some (.int .i64 (kof l).o) := rfl
    have g2 : (kl (kof l))[2]? = some (.int .i64 (kof l).c) := rfl
    have g3 : (kl (kof l))[3]? = some (.int .i64 (kof l).l) := rfl
    have g4 : (kl (kof l))[4]? = some (.int .i64 (kof l).r) := rfl
    have g5 : (kl (kof l))[5]? = some (.int .i64 (kof l).v) := rfl
    have BW := Lib.hid hB
    have KW := Lib.hid hK
    have ZW := Lib.hid hZ
    clear hB hK hZ n2 n4 n8 n12 w1 w2 w3 w4 w8 l1 l2 l3 l4 l5
    go_wp2_with (first
      | (go_at_call 27; refine (rchk_any (kof l) _).mono ?_; rw [HC.out]; rintro e w9 ⟨rfl, hb⟩; have B9 := Lib.hid (BW.out.trans (hb.mono BW.out.size)); have Z9 := Lib.hid (Blk.keep ZW.out hb); obtain ⟨c0, c1, c2, c3, c4, c5⟩ := Blk.six (Blk.keep KW.out hb); clear hb)
      | (refine wpList_store_row rfl 25 (.tmp 2) (.tmp 38) rfl w.heap.size (kl (kof l)).toArray rfl rfl 25 (kl zk).toArray Z9.out size25 rfl (kl_all _) ?_))
    have h4 := setRow_heap w9 w.heap.size (kl zk).toArray (kl (kof l)).toArray 25 (0, 0) Z9.out
    have h5 : Below w.heap.size w (w9.setRow w.heap.size (kl (kof l)).toArray) := B9.out.trans (below_lt (setRow_fr w9 _ _) B9.out.size (fun j hj => by omega))
    exact bodyPost_ret (res_1t rfl _ _ w.heap.size _ _ rfl rfl (load_key (kof l) h4)) rfl ⟨rfl, h5⟩
set_option maxRecDepth 100000 in
set_option maxHeartbeats 2000000 in
theorem rgetkey_no (b off c : Nat) (l : List UInt8) (w : World) (hok : ¬ (kof l).ok) (hl : l.length = 20) (hc : 20 ≤ c) (hr : Rd w (some ⟨b, off, none⟩) l) :
    Calls Tryd.prog 16 #[.slice (some ⟨b, off, none⟩) 20 c] w fun e w' => e = .returned (.tuple #[(zk).val, .int .i64 151]) ∧ Below w.heap.size w w' := by
  have HR := Lib.hid (hr.alloc (.cells (kl zk).toArray 25))
  have HB := Lib.hid ((Below.refl w.heap.size w).alloc (Nat.le_refl _) (.cells (kl zk).toArray 25))
  have HL := Lib.hid hl
  have HC := Lib.hid (Ky.chk_no hok)
  have H8 := Lib.hid (num_b (l.drop 12) 8 (by decide))
  have n2 : ¬ c = 2 := by omega
  have n4 : ¬ c = 4 := by omega
  have n8 : ¬ c = 8 := by omega
  have n12 : ¬ c = 12 := by omega
  have w1 := wrap_i64u (b0 l)
  have w2 := wrap_i64u (b1 l)
  have w3 := wrap_i64n (numLE ((l.drop 2).take 2)) (by have := num_b (l.drop 2) 2 (by decide); have h := numLE_lt ((l.drop 2).take 2); rw [show ((l.drop 2).take 2).length = 2 by rw [List.length_take, List.length_drop]; omega] at h; omega)
  have w4 := wrap_i64n (numLE ((l.drop 4).take 4)) (by have h := numLE_lt ((l.drop 4).take 4); rw [show ((l.drop 4).take 4).length = 4 by rw [List.length_take, List.length_drop]; omega] at h; omega)
  have w8 := wrap_i64n (numLE ((l.drop 8).take 4)) (by have h := numLE_lt ((l.drop 8).take 4); rw [show ((l.drop 8).take 4).length = 4 by rw [List.length_take, List.length_drop]; omega] at h; omega)
  have l1 : (2 : Int) ≤ (c : Int) := by omega
  have l2 : (4 : Int) ≤ (c : Int) := by omega
  have l3 : (8 : Int) ≤ (c : Int) := by omega
  have l4 : (12 : Int) ≤ (c : Int) := by omega
  have l5 : (20 : Int) ≤ (c : Int) := by omega
  clear hr hl hc hok
  go_enter Tryd.func16, Tryd.ntmps16
  go_wp2_with fail
  refine wp_region_only (S := fun w' => w'.cell? ⟨b, off, none⟩ = some (.int .u8 ((b0 l).toNat : Int)) ∧ w'.cell? ⟨b, off + 1, none⟩ = some (.int .u8 ((b1 l).toNat : Int)) ∧ Rd w' (some ⟨b, off, none⟩) l) (by kernel_rfl) ⟨(rd2 HR.out.drew (by have := HL.out; omega)).1, (rd2 HR.out.drew (by have := HL.out; omega)).2, HR.out.drew⟩ (fun hHeld => ?_)
  refine wpAnyH_take (i := 0) (v := ?v32) rfl (by kernel_rfl) (by kernel_rfl) (by kernel_rfl) (fun _ _ _ h => h) (Or.inl ⟨by rfl, ?hy32⟩) hHeld ?rest32
  case hy32 =>
    intro w' hSw
    try dsimp only at hSw
    go_simp
    first | done | with_reducible rfl
  try simp only [Act.put, List.getElem_toArray, List.getElem_cons_zero, List.setIfInBounds_toArray, List.set_cons_zero, List.set_cons_succ]
  refine wpAnyH_take (i := 1) (v := ?v33) rfl (by kernel_rfl) (by kernel_rfl) (by kernel_rfl) (fun _ _ _ h => h) (Or.inl ⟨by rfl, ?hy33⟩) hHeld ?rest33
  case hy33 =>
    intro w' hSw
    try dsimp only at hSw
    go_simp
    first | done | with_reducible rfl
  try simp only [Act.put, List.getElem_toArray, List.getElem_cons_succ, List.getElem_cons_zero, List.setIfInBounds_toArray, List.set_cons_zero, List.set_cons_succ]
  refine wpAnyH_take (i := 2) (v := ?v34) rfl (by kernel_rfl) (by kernel_rfl) (by kernel_rfl) (fun _ _ _ h => h) (Or.inl ⟨by rfl, ?hy34⟩) hHeld ?rest34
  case hy34 =>
    intro w' hSw
    try dsimp only at hSw
    go_simp
    first | done | with_reducible rfl
  try simp only [Act.put, List.getElem_toArray, List.getElem_cons_succ, List.getElem_cons_zero, List.setIfInBounds_toArray, List.set_cons_zero, List.set_cons_succ]
  refine wpAnyH_take (i := 3) (v := ?v35) rfl (by kernel_rfl) (by kernel_rfl) (by kernel_rfl) (fun _ _ _ h => h) (Or.inl ⟨by rfl, ?hy35⟩) hHeld ?rest35
  case hy35 =>
    intro w' hSw
    try dsimp only at hSw
    go_simp
    first | done | with_reducible rfl
  try simp only [Act.put, List.getElem_toArray, List.getElem_cons_succ, List.getElem_cons_zero, List.setIfInBounds_toArray, List.set_cons_zero, List.set_cons_succ]
  refine wpAnyH_take (i := 4) (v := ?v36) rfl (by kernel_rfl) (by kernel_rfl) (by kernel_rfl) (fun _ _ _ h => h) (Or.inl ⟨by rfl, ?hy36⟩) hHeld ?rest36
  case hy36 =>
    intro w' hSw
    try dsimp only at hSw
    go_simp
    first | done | with_reducible rfl
  try simp only [Act.put, List.getElem_toArray, List.getElem_cons_succ, List.getElem_cons_zero, List.setIfInBounds_toArray, List.set_cons_zero, List.set_cons_succ]
  refine wpAnyH_take (i := 5) (v := ?v37) rfl (by kernel_rfl) (by kernel_rfl) (by kernel_rfl) (fun _ _ _ h => h) (Or.inl ⟨by rfl, ?hy37⟩) hHeld ?rest37
  case hy37 =>
    intro w' hSw
    try dsimp only at hSw
    go_simp
    first | done | with_reducible rfl
  try simp only [Act.put, List.getElem_toArray, List.getElem_cons_succ, List.getElem_cons_zero, List.setIfInBounds_toArray, List.set_cons_zero, List.set_cons_succ]
  refine wpAnyH_take (i := 6) (v := ?v38) rfl (by kernel_rfl) (by kernel_rfl) (by kernel_rfl) (fun _ _ _ h => h) (Or.inl ⟨by rfl, ?hy38⟩) hHeld ?rest38
  case hy38 =>
    intro w' hSw
    try dsimp only at hSw
    go_simp
    first | done | with_reducible rfl
  try simp only [Act.put, List.getElem_toArray, List.getElem_cons_succ, List.getElem_cons_zero, List.setIfInBounds_toArray, List.set_cons_zero, List.set_cons_succ]
  refine wpAnyH_take (i := 7) (v := ?v39) rfl (by kernel_rfl) (by kernel_rfl) (by kernel_rfl) (fun _ _ _ h => h) (Or.inl ⟨by rfl, ?hy39⟩) hHeld ?rest39
  case hy39 =>
    intro w' hSw
    try dsimp only at hSw
    go_simp
    first | done | with_reducible rfl
  try simp only [Act.put, List.getElem_toArray, List.getElem_cons_succ, List.getElem_cons_zero, List.setIfInBounds_toArray, List.set_cons_zero, List.set_cons_succ]
  refine wpAnyH_take (i := 8) (v := ?v40) rfl (by kernel_rfl) (by kernel_rfl) (by kernel_rfl) (fun _ _ _ h => h) (Or.inl ⟨by rfl, ?hy40⟩) hHeld ?rest40
  case hy40 =>
    intro w' hSw
    try dsimp only at hSw
    go_simp
    first | done | with_reducible rfl
  try simp only [Act.put, List.getElem_toArray, List.getElem_cons_succ, List.getElem_cons_zero, List.setIfInBounds_toArray, List.set_cons_zero, List.set_cons_succ]
  refine wpAnyH_take (i := 9) (v := ?v41) rfl (by kernel_rfl) (by kernel_rfl) (by kernel_rfl) (fun _ _ _ h => h) (Or.inl ⟨by rfl, ?hy41⟩) hHeld ?rest41
  case hy41 =>
    intro w' hSw
    try dsimp only at hSw
    go_simp
    first | done | with_reducible rfl
  try simp only [Act.put, List.getElem_toArray, List.getElem_cons_succ, List.getElem_cons_zero, List.setIfInBounds_toArray, List.set_cons_zero, List.set_cons_succ]
  refine wpAnyH_take (i := 12) (v := ?v42) rfl (by kernel_rfl) (by kernel_rfl) (by kernel_rfl) (fun _ _ _ h => h) (Or.inl ⟨by rfl, ?hy42⟩) hHeld ?rest42
  case hy42 =>
    intro w' hSw
    try dsimp only at hSw
    go_simp
    first | done | with_reducible rfl
  try simp only [Act.put, List.getElem_toArray, List.getElem_cons_succ, List.getElem_cons_zero, List.setIfInBounds_toArray, List.set_cons_zero, List.set_cons_succ]
  refine wpAnyH_take (i := 13) (v := ?v43) rfl (by kernel_rfl) (by kernel_rfl) (by kernel_rfl) (fun _ _ _ h => h) (Or.inl ⟨by rfl, ?hy43⟩) hHeld ?rest43
  case hy43 =>
    intro w' hSw
    try dsimp only at hSw
    go_simp
    first | done | with_reducible rfl
  try simp only [Act.put, List.getElem_toArray, List.getElem_cons_succ, List.getElem_cons_zero, List.setIfInBounds_toArray, List.set_cons_zero, List.set_cons_succ]
  refine wpAnyH_take (i := 16) (v := ?v44) rfl (by kernel_rfl) (by kernel_rfl) (by kernel_rfl) (fun _ _ _ h => h) (Or.inl ⟨by rfl, ?hy44⟩) hHeld ?rest44
  case hy44 =>
    intro w' hSw
    try dsimp only at hSw
    go_simp
    first | done | with_reducible rfl
  try simp only [Act.put, List.getElem_toArray, List.getElem_cons_succ, List.getElem_cons_zero, List.setIfInBounds_toArray, List.set_cons_zero, List.set_cons_succ]
  refine wpAnyH_take (i := 17) (v := ?v45) rfl (by kernel_rfl) (by kernel_rfl) (by kernel_rfl) (fun _ _ _ h => h) (Or.inl ⟨by rfl, ?hy45⟩) hHeld ?rest45
  case hy45 =>
    intro w' hSw
    try dsimp only at hSw
    go_simp
    first | done | with_reducible rfl
  try simp only [Act.put, List.getElem_toArray, List.getElem_cons_succ, List.getElem_cons_zero, List.setIfInBounds_toArray, List.set_cons_zero, List.set_cons_succ]
  refine wpAnyH_take (i := 20) (v := ?v46) rfl (by kernel_rfl) (by kernel_rfl) (by kernel_rfl) (fun _ _ _ h => h) (Or.inl ⟨by rfl, ?hy46⟩) hHeld ?rest46
  case hy46 =>
    intro w' hSw
    try dsimp only at hSw
    go_simp
    first | done | with_reducible rfl
  try simp only [Act.put, List.getElem_toArray, List.getElem_cons_succ, List.getElem_cons_zero, List.setIfInBounds_toArray, List.set_cons_zero, List.set_cons_succ]
  refine wpAnyH_take (i := 21) (v := ?v47) rfl (by kernel_rfl) (by kernel_rfl) (by kernel_rfl) (fun _ _ _ h => h) (Or.inl ⟨by rfl, ?hy47⟩) hHeld ?rest47
  case hy47 =>
    intro w' hSw
    try dsimp only at hSw
    go_simp
    first | done | with_reducible rfl
  try simp only [Act.put, List.getElem_toArray, List.getElem_cons_succ, List.getElem_cons_zero, List.setIfInBounds_toArray, List.set_cons_zero, List.set_cons_succ]
  refine wpAnyH_ready (rs := [10, 25]) (by kernel_rfl) (by simp) ?_
  refine AllReadyH.cons (by rfl) (fun K hK => ?_) (AllReadyH.cons (by rfl) (fun K hK => ?_) AllReadyH.nil)
  · go_simp
    refine (rnum_at b off 2 2 _ l _ (by have := HL.out; omega) HR.out.drew (by decide)).mono ?_
    rintro e y21 ⟨rfl, rfl⟩
    clear hHeld
    go_wp2_with fail
    refine hK.out _ _ ⟨(rd2 HR.out.drew (by have := HL.out; omega)).1, (rd2 HR.out.drew (by have := HL.out; omega)).2, HR.out.drew⟩ (fun hHeld => ?_)
    clear hK K
    try simp only [Act.put, List.getElem_toArray, List.getElem_cons_succ, List.getElem_cons_zero, List.setIfInBounds_toArray, List.set_cons_zero, List.set_cons_succ]
    refine wpAnyH_take (i := 11) (v := ?v48) rfl (by kernel_rfl) (by kernel_rfl) (by kernel_rfl) (fun _ _ _ h => h) (Or.inl ⟨by rfl, ?hy48⟩) hHeld ?rest48
    case hy48 =>
      intro w' hSw
      try dsimp only at hSw
      go_simp
      first | done | with_reducible rfl
    try simp only [Act.put, List.getElem_toArray, List.getElem_cons_succ, List.getElem_cons_zero, List.setIfInBounds_toArray, List.set_cons_zero, List.set_cons_succ]
    refine wpAnyH_ready (rs := [14, 25]) (by kernel_rfl) (by simp) ?_
    refine AllReadyH.cons (by rfl) (fun K hK => ?_) (AllReadyH.cons (by rfl) (fun K hK => ?_) AllReadyH.nil)
    · go_simp
      refine (rnum_at b off 4 4 _ l _ (by have := HL.out; omega) HR.out.drew (by decide)).mono ?_
      rintro e y22 ⟨rfl, rfl⟩
      clear hHeld
      go_wp2_with fail
      refine hK.out _ _ ⟨(rd2 HR.out.drew (by have := HL.out; omega)).1, (rd2 HR.out.drew (by have := HL.out; omega)).2, HR.out.drew⟩ (fun hHeld => ?_)
      clear hK K
      try simp only [Act.put, List.getElem_toArray, List.getElem_cons_succ, List.getElem_cons_zero, List.setIfInBounds_toArray, List.set_cons_zero, List.set_cons_succ]
      refine wpAnyH_take (i := 15) (v := ?v49) rfl (by kernel_rfl) (by kernel_rfl) (by kernel_rfl) (fun _ _ _ h => h) (Or.inl ⟨by rfl, ?hy49⟩) hHeld ?rest49
      case hy49 =>
        intro w' hSw
        try dsimp only at hSw
        go_simp
        first | done | with_reducible rfl
      try simp only [Act.put, List.getElem_toArray, List.getElem_cons_succ, List.getElem_cons_zero, List.setIfInBounds_toArray, List.set_cons_zero, List.set_cons_succ]
      refine wpAnyH_ready (rs := [18, 25]) (by kernel_rfl) (by simp) ?_
      refine AllReadyH.cons (by rfl) (fun K hK => ?_) (AllReadyH.cons (by rfl) (fun K hK => ?_) AllReadyH.nil)
      · go_simp
        refine (rnum_at b off 8 4 _ l _ (by have := HL.out; omega) HR.out.drew (by decide)).mono ?_
        rintro e y23 ⟨rfl, rfl⟩
        clear hHeld
        go_wp2_with fail
        refine hK.out _ _ ⟨(rd2 HR.out.drew (by have := HL.out; omega)).1, (rd2 HR.out.drew (by have := HL.out; omega)).2, HR.out.drew⟩ (fun hHeld => ?_)
        clear hK K
        try simp only [Act.put, List.getElem_toArray, List.getElem_cons_succ, List.getElem_cons_zero, List.setIfInBounds_toArray, List.set_cons_zero, List.set_cons_succ]
        refine wpAnyH_take (i := 19) (v := ?v50) rfl (by kernel_rfl) (by kernel_rfl) (by kernel_rfl) (fun _ _ _ h => h) (Or.inl ⟨by rfl, ?hy50⟩) hHeld ?rest50
        case hy50 =>
          intro w' hSw
          try dsimp only at hSw
          go_simp
          first | done | with_reducible rfl
        try simp only [Act.put, List.getElem_toArray, List.getElem_cons_succ, List.getElem_cons_zero, List.setIfInBounds_toArray, List.set_cons_zero, List.set_cons_succ]
        refine wpAnyH_ready (rs := [22, 25]) (by kernel_rfl) (by simp) ?_
        refine AllReadyH.cons (by rfl) (fun K hK => ?_) (AllReadyH.cons (by rfl) (fun K hK => ?_) AllReadyH.nil)
        · go_simp
          refine (rnum_at b off 12 8 _ l _ (by have := HL.out; omega) HR.out.drew (by decide)).mono ?_
          rintro e y24 ⟨rfl, rfl⟩
          clear hHeld
          go_wp2_with fail
          refine hK.out _ _ ⟨(rd2 HR.out.drew (by have := HL.out; omega)).1, (rd2 HR.out.drew (by have := HL.out; omega)).2, HR.out.drew⟩ (fun hHeld => ?_)
          clear hK K
          try simp only [Act.put, List.getElem_toArray, List.getElem_cons_succ, List.getElem_cons_zero, List.setIfInBounds_toArray, List.set_cons_zero, List.set_cons_succ]
          refine wpAnyH_ready (rs := [23, 25]) (by kernel_rfl) (by simp) ?_
          refine AllReadyH.cons (by rfl) (fun K hK => ?_) (AllReadyH.cons (by rfl) (fun K hK => ?_) AllReadyH.nil)
          · go_simp
            refine (rsigned_any _ _ H8.out).mono ?_
            rintro e y25 ⟨rfl, rfl⟩
            clear hHeld
            go_wp2_with fail
            refine hK.out _ _ ⟨(rd2 HR.out.drew (by have := HL.out; omega)).1, (rd2 HR.out.drew (by have := HL.out; omega)).2, HR.out.drew⟩ (fun hHeld => ?_)
            clear hK K
            try simp only [Act.put, List.getElem_toArray, List.getElem_cons_succ, List.getElem_cons_zero, List.setIfInBounds_toArray, List.set_cons_zero, List.set_cons_succ]
            refine wpAnyH_take (i := 24) (v := ?v51) rfl (by kernel_rfl) (by kernel_rfl) (by kernel_rfl) (fun _ _ _ h => h) (Or.inl ⟨by rfl, ?hy51⟩) hHeld ?rest51
            case hy51 =>
              intro w' hSw
              try dsimp only at hSw
              go_simp
              first | done | with_reducible rfl
            try simp only [Act.put, List.getElem_toArray, List.getElem_cons_succ, List.getElem_cons_zero, List.setIfInBounds_toArray, List.set_cons_zero, List.set_cons_succ]
            refine wpAnyH_ready (rs := [25]) (by kernel_rfl) (by simp) ?_
            refine AllReadyH.cons (by rfl) (fun K hK => ?_) AllReadyH.nil
            go_simp
            clear hHeld
            refine hK.out _ _ ⟨(rd2 (HR.out.alloc (.cells (kl zk).toArray 25)).drew (by have := HL.out; omega)).1, (rd2 (HR.out.alloc (.cells (kl zk).toArray 25)).drew (by have := HL.out; omega)).2, (HR.out.alloc (.cells (kl zk).toArray 25)).drew⟩ (fun hHeld => ?_)
            clear hK K
            try simp only [Act.put, List.getElem_toArray, List.getElem_cons_succ, List.getElem_cons_zero, List.setIfInBounds_toArray, List.set_cons_zero, List.set_cons_succ]
            refine wpAnyH_ready (rs := [26]) (by kernel_rfl) (by simp) ?_
            refine AllReadyH.cons (by rfl) (fun K hK => ?_) AllReadyH.nil
            clear hHeld
            refine step_store_newd rfl 25 (.tmp 4) (.tmp 33) rfl (by first | rfl | (simp; rfl)) (kl (kof l)).toArray (kl zk).toArray rfl size25 rfl (kl_all _) ?_
            refine hK.out _ _ ⟨(rd2 (HR.out.alloc (.cells (kl (kof l)).toArray 25)).drew (by have := HL.out; omega)).1, (rd2 (HR.out.alloc (.cells (kl (kof l)).toArray 25)).drew (by have := HL.out; omega)).2, (HR.out.alloc (.cells (kl (kof l)).toArray 25)).drew⟩ (fun hHeld => ?_)
            clear hK K
            try simp only [Act.put, List.getElem_toArray, List.getElem_cons_succ, List.getElem_cons_zero]
            refine wpAnyH_done (by kernel_rfl) ?_ _
            refine OnlyN.normal ?_
            clear hHeld
            have hB := (HB.out.alloc HB.out.size (.cells (kl (kof l)).toArray 25)).drew
            have hK := Blk.drew (Blk.new_of (w.alloc (.cells (kl zk).toArray 25)) 25 (kl (kof l)).toArray (g := w.heap.size + 1) (by simp))
            have hZ := Blk.drew (Blk.alloc (Blk.new w 25 (kl zk).toArray) (.cells (kl (kof l)).toArray 25))
            have g0 : (kl (kof l))[0]? = some (.int .i64 (kof l).k) := rfl
            have g1 : (kl (kof l))[1]? = some (.int .i64 (kof l).o) := rfl
            have g2 : (kl (kof l))[2]? = some (.int .i64 (kof l).c) := rfl
            have g3 : (kl (kof l))[3]? = some (.int .i64 (kof l).l) := rfl
            have g4 : (kl (kof l))[4]? = some (.int .i64 (kof l).r) := rfl
            have g5 : (kl (kof l))[5]? = some (.int .i64 (kof l).v) := rfl
            have BW := Lib.hid hB
            have KW := Lib.hid hK
            have ZW := Lib.hid hZ
            clear hB hK hZ n2 n4 n8 n12 w1 w2 w3 w4 w8 l1 l2 l3 l4 l5
            go_wp2_with (first
              | (go_at_call 27; refine (rchk_any (kof l) _).mono ?_; rw [HC.out]; rintro e w9 ⟨rfl, hb⟩; have B9 := Lib.hid (BW.out.trans (hb.mono BW.out.size)); have Z9 := Lib.hid (Blk.keep ZW.out hb); obtain ⟨c0, c1, c2, c3, c4, c5⟩ := Blk.six (Blk.keep KW.out hb); clear hb)
              | (refine wpList_store_row rfl 25 (.tmp 2) (.tmp 37) rfl w.heap.size (kl (zk)).toArray rfl rfl 25 (kl zk).toArray Z9.out size25 rfl (kl_all _) ?_))
            have h4 := setRow_heap w9 w.heap.size (kl zk).toArray (kl (zk)).toArray 25 (0, 0) Z9.out
            have h5 : Below w.heap.size w (w9.setRow w.heap.size (kl (zk)).toArray) := B9.out.trans (below_lt (setRow_fr w9 _ _) B9.out.size (fun j hj => by omega))
            exact bodyPost_ret (res_1t rfl _ _ w.heap.size _ _ rfl rfl (load_key (zk) h4)) rfl ⟨rfl, h5⟩
          · go_simp
            clear hHeld
            refine hK.out _ _ ⟨(rd2 (HR.out.alloc (.cells (kl zk).toArray 25)).drew (by have := HL.out; omega)).1, (rd2 (HR.out.alloc (.cells (kl zk).toArray 25)).drew (by have := HL.out; omega)).2, (HR.out.alloc (.cells (kl zk).toArray 25)).drew⟩ (fun hHeld => ?_)
            clear hK K
            try simp only [Act.put, List.getElem_toArray, List.getElem_cons_succ, List.getElem_cons_zero, List.setIfInBounds_toArray, List.set_cons_zero, List.set_cons_succ]
            refine wpAnyH_ready (rs := [23]) (by kernel_rfl) (by simp) ?_
            refine AllReadyH.cons (by rfl) (fun K hK => ?_) AllReadyH.nil
            go_simp
            refine (rsigned_any _ _ H8.out).mono ?_
            rintro e y26 ⟨rfl, rfl⟩
            clear hHeld
            go_wp2_with fail
            refine hK.out _ _ ⟨(rd2 (HR.out.alloc (.cells (kl zk).toArray 25)).drew (by have := HL.out; omega)).1, (rd2 (HR.out.alloc (.cells (kl zk).toArray 25)).drew (by have := HL.out; omega)).2, (HR.out.alloc (.cells (kl zk).toArray 25)).drew⟩ (fun hHeld => ?_)
            clear hK K
            try simp only [Act.put, List.getElem_toArray, List.getElem_cons_succ, List.getElem_cons_zero, List.setIfInBounds_toArray, List.set_cons_zero, List.set_cons_succ]
            refine wpAnyH_take (i := 24) (v := ?v52) rfl (by kernel_rfl) (by kernel_rfl) (by kernel_rfl) (fun _ _ _ h => h) (Or.inl ⟨by rfl, ?hy52⟩) hHeld ?rest52
            case hy52 =>
              intro w' hSw
              try dsimp only at hSw
              go_simp
              first | done | with_reducible rfl
            try simp only [Act.put, List.getElem_toArray, List.getElem_cons_succ, List.getElem_cons_zero, List.setIfInBounds_toArray, List.set_cons_zero, List.set_cons_succ]
            refine wpAnyH_ready (rs := [26]) (by kernel_rfl) (by simp) ?_
            refine AllReadyH.cons (by rfl) (fun K hK => ?_) AllReadyH.nil
            clear hHeld
            refine step_store_newd rfl 25 (.tmp 4) (.tmp 33) rfl (by first | rfl | (simp; rfl)) (kl (kof l)).toArray (kl zk).toArray rfl size25 rfl (kl_all _) ?_
            refine hK.out _ _ ⟨(rd2 (HR.out.alloc (.cells (kl (kof l)).toArray 25)).drew (by have := HL.out; omega)).1, (rd2 (HR.out.alloc (.cells (kl (kof l)).toArray 25)).drew (by have := HL.out; omega)).2, (HR.out.alloc (.cells (kl (kof l)).toArray 25)).drew⟩ (fun hHeld => ?_)
            clear hK K
            try simp only [Act.put, List.getElem_toArray, List.getElem_cons_succ, List.getElem_cons_zero]
            refine wpAnyH_done (by kernel_rfl) ?_ _
            refine OnlyN.normal ?_
            clear hHeld
            have hB := (HB.out.alloc HB.out.size (.cells (kl (kof l)).toArray 25)).drew
            have hK := Blk.drew (Blk.new_of (w.alloc (.cells (kl zk).toArray 25)) 25 (kl (kof l)).toArray (g := w.heap.size + 1) (by simp))
            have hZ := Blk.drew (Blk.alloc (Blk.new w 25 (kl zk).toArray) (.cells (kl (kof l)).toArray 25))
            have g0 : (kl (kof l))[0]? = some (.int .i64 (kof l).k) := rfl
            have g1 : (kl (kof l))[1]? = some (.int .i64 (kof l).o) := rfl
            have g2 : (kl (kof l))[2]? = some (.int .i64 (kof l).c) := rfl
            have g3 : (kl (kof l))[3]? = some (.int .i64 (kof l).l) := rfl
            have g4 : (kl (kof l))[4]? = some (.int .i64 (kof l).r) := rfl
            have g5 : (kl (kof l))[5]? = some (.int .i64 (kof l).v) := rfl
            have BW := Lib.hid hB
            have KW := Lib.hid hK
            have ZW := Lib.hid hZ
            clear hB hK hZ n2 n4 n8 n12 w1 w2 w3 w4 w8 l1 l2 l3 l4 l5
            go_wp2_with (first
              | (go_at_call 27; refine (rchk_any (kof l) _).mono ?_; rw [HC.out]; rintro e w9 ⟨rfl, hb⟩; have B9 := Lib.hid (BW.out.trans (hb.mono BW.out.size)); have Z9 := Lib.hid (Blk.keep ZW.out hb); obtain ⟨c0, c1, c2, c3, c4, c5⟩ := Blk.six (Blk.keep KW.out hb); clear hb)
              | (refine wpList_store_row rfl 25 (.tmp 2) (.tmp 37) rfl w.heap.size (kl (zk)).toArray rfl rfl 25 (kl zk).toArray Z9.out size25 rfl (kl_all _) ?_))
            have h4 := setRow_heap w9 w.heap.size (kl zk).toArray (kl (zk)).toArray 25 (0, 0) Z9.out
            have h5 : Below w.heap.size w (w9.setRow w.heap.size (kl (zk)).toArray) := B9.out.trans (below_lt (setRow_fr w9 _ _) B9.out.size (fun j hj => by omega))
            exact bodyPost_ret (res_1t rfl _ _ w.heap.size _ _ rfl rfl (load_key (zk) h4)) rfl ⟨rfl, h5⟩
        · go_simp
          clear hHeld
          refine hK.out _ _ ⟨(rd2 (HR.out.alloc (.cells (kl zk).toArray 25)).drew (by have := HL.out; omega)).1, (rd2 (HR.out.alloc (.cells (kl zk).toArray 25)).drew (by have := HL.out; omega)).2, (HR.out.alloc (.cells (kl zk).toArray 25)).drew⟩ (fun hHeld => ?_)
          clear hK K
          try simp only [Act.put, List.getElem_toArray, List.getElem_cons_succ, List.getElem_cons_zero, List.setIfInBounds_toArray, List.set_cons_zero, List.set_cons_succ]
          refine wpAnyH_ready (rs := [22]) (by kernel_rfl) (by simp) ?_
          refine AllReadyH.cons (by rfl) (fun K hK => ?_) AllReadyH.nil
          go_simp
          refine (rnum_at b off 12 8 _ l _ (by have := HL.out; omega) (HR.out.alloc (.cells (kl zk).toArray 25)).drew (by decide)).mono ?_
          rintro e y27 ⟨rfl, rfl⟩
          clear hHeld
          go_wp2_with fail
          refine hK.out _ _ ⟨(rd2 (HR.out.alloc (.cells (kl zk).toArray 25)).drew (by have := HL.out; omega)).1, (rd2 (HR.out.alloc (.cells (kl zk).toArray 25)).drew (by have := HL.out; omega)).2, (HR.out.alloc (.cells (kl zk).toArray 25)).drew⟩ (fun hHeld => ?_)
          clear hK K
          try simp only [Act.put, List.getElem_toArray, List.getElem_cons_succ, List.getElem_cons_zero, List.setIfInBounds_toArray, List.set_cons_zero, List.set_cons_succ]
          refine wpAnyH_ready (rs := [23]) (by kernel_rfl) (by simp) ?_
          refine AllReadyH.cons (by rfl) (fun K hK => ?_) AllReadyH.nil
          go_simp
          refine (rsigned_any _ _ H8.out).mono ?_
          rintro e y28 ⟨rfl, rfl⟩
          clear hHeld
          go_wp2_with fail
          refine hK.out _ _ ⟨(rd2 (HR.out.alloc (.cells (kl zk).toArray 25)).drew (by have := HL.out; omega)).1, (rd2 (HR.out.alloc (.cells (kl zk).toArray 25)).drew (by have := HL.out; omega)).2, (HR.out.alloc (.cells (kl zk).toArray 25)).drew⟩ (fun hHeld => ?_)
          clear hK K
          try simp only [Act.put, List.getElem_toArray, List.getElem_cons_succ, List.getElem_cons_zero, List.setIfInBounds_toArray, List.set_cons_zero, List.set_cons_succ]
          refine wpAnyH_take (i := 24) (v := ?v53) rfl (by kernel_rfl) (by kernel_rfl) (by kernel_rfl) (fun _ _ _ h => h) (Or.inl ⟨by rfl, ?hy53⟩) hHeld ?rest53
          case hy53 =>
            intro w' hSw
            try dsimp only at hSw
            go_simp
            first | done | with_reducible rfl
          try simp only [Act.put, List.getElem_toArray, List.getElem_cons_succ, List.getElem_cons_zero, List.setIfInBounds_toArray, List.set_cons_zero, List.set_cons_succ]
          refine wpAnyH_ready (rs := [26]) (by kernel_rfl) (by simp) ?_
          refine AllReadyH.cons (by rfl) (fun K hK => ?_) AllReadyH.nil
          clear hHeld
          refine step_store_newd rfl 25 (.tmp 4) (.tmp 33) rfl (by first | rfl | (simp; rfl)) (kl (kof l)).toArray (kl zk).toArray rfl size25 rfl (kl_all _) ?_
          refine hK.out _ _ ⟨(rd2 (HR.out.alloc (.cells (kl (kof l)).toArray 25)).drew (by have := HL.out; omega)).1, (rd2 (HR.out.alloc (.cells (kl (kof l)).toArray 25)).drew (by have := HL.out; omega)).2, (HR.out.alloc (.cells (kl (kof l)).toArray 25)).drew⟩ (fun hHeld => ?_)
          clear hK K
          try simp only [Act.put, List.getElem_toArray, List.getElem_cons_succ, List.getElem_cons_zero]
          refine wpAnyH_done (by kernel_rfl) ?_ _
          refine OnlyN.normal ?_
          clear hHeld
          have hB := (HB.out.alloc HB.out.size (.cells (kl (kof l)).toArray 25)).drew
          have hK := Blk.drew (Blk.new_of (w.alloc (.cells (kl zk).toArray 25)) 25 (kl (kof l)).toArray (g := w.heap.size + 1) (by simp))
          have hZ := Blk.drew (Blk.alloc (Blk.new w 25 (kl zk).toArray) (.cells (kl (kof l)).toArray 25))
          have g0 : (kl (kof l))[0]? = some (.int .i64 (kof l).k) := rfl
          have g1 : (kl (kof l))[1]? = some (.int .i64 (kof l).o) := rfl
          have g2 : (kl (kof l))[2]? = some (.int .i64 (kof l).c) := rfl
          have g3 : (kl (kof l))[3]? = some (.int .i64 (kof l).l) := rfl
          have g4 : (kl (kof l))[4]? = some (.int .i64 (kof l).r) := rfl
          have g5 : (kl (kof l))[5]? = some (.int .i64 (kof l).v) := rfl
          have BW := Lib.hid hB
          have KW := Lib.hid hK
          have ZW := Lib.hid hZ
          clear hB hK hZ n2 n4 n8 n12 w1 w2 w3 w4 w8 l1 l2 l3 l4 l5
          go_wp2_with (first
            | (go_at_call 27; refine (rchk_any (kof l) _).mono ?_; rw [HC.out]; rintro e w9 ⟨rfl, hb⟩; have B9 := Lib.hid (BW.out.trans (hb.mono BW.out.size)); have Z9 := Lib.hid (Blk.keep ZW.out hb); obtain ⟨c0, c1, c2, c3, c4, c5⟩ := Blk.six (Blk.keep KW.out hb); clear hb)
            | (refine wpList_store_row rfl 25 (.tmp 2) (.tmp 37) rfl w.heap.size (kl (zk)).toArray rfl rfl 25 (kl zk).toArray Z9.out size25 rfl (kl_all _) ?_))
          have h4 := setRow_heap w9 w.heap.size (kl zk).toArray (kl (zk)).toArray 25 (0, 0) Z9.out
          have h5 : Below w.heap.size w (w9.setRow w.heap.size (kl (zk)).toArray) := B9.out.trans (below_lt (setRow_fr w9 _ _) B9.out.size (fun j hj => by omega))
          exact bodyPost_ret (res_1t rfl _ _ w.heap.size _ _ rfl rfl (load_key (zk) h4)) rfl ⟨rfl, h5⟩
      · go_simp
        clear hHeld
        refine hK.out _ _ ⟨(rd2 (HR.out.alloc (.cells (kl zk).toArray 25)).drew (by have := HL.out; omega)).1, (rd2 (HR.out.alloc (.cells (kl zk).toArray 25)).drew (by have := HL.out; omega)).2, (HR.out.alloc (.cells (kl zk).toArray 25)).drew⟩ (fun hHeld => ?_)
        clear hK K
        try simp only [Act.put, List.getElem_toArray, List.getElem_cons_succ, List.getElem_cons_zero, List.setIfInBounds_toArray, List.set_cons_zero, List.set_cons_succ]
        refine wpAnyH_ready (rs := [18]) (by kernel_rfl) (by simp) ?_
        refine AllReadyH.cons (by rfl) (fun K hK => ?_) AllReadyH.nil
        go_simp
        refine (rnum_at b off 8 4 _ l _ (by have := HL.out; omega) (HR.out.alloc (.cells (kl zk).toArray 25)).drew (by decide)).mono ?_
        rintro e y29 ⟨rfl, rfl⟩
        clear hHeld
        go_wp2_with fail
        refine hK.out _ _ ⟨(rd2 (HR.out.alloc (.cells (kl zk).toArray 25)).drew (by have := HL.out; omega)).1, (rd2 (HR.out.alloc (.cells (kl zk).toArray 25)).drew (by have := HL.out; omega)).2, (HR.out.alloc (.cells (kl zk).toArray 25)).drew⟩ (fun hHeld => ?_)
        clear hK K
        try simp only [Act.put, List.getElem_toArray, List.getElem_cons_succ, List.getElem_cons_zero, List.setIfInBounds_toArray, List.set_cons_zero, List.set_cons_succ]
        refine wpAnyH_take (i := 19) (v := ?v54) rfl (by kernel_rfl) (by kernel_rfl) (by kernel_rfl) (fun _ _ _ h => h) (Or.inl ⟨by rfl, ?hy54⟩) hHeld ?rest54
        case hy54 =>
          intro w' hSw
          try dsimp only at hSw
          go_simp
          first | done | with_reducible rfl
        try simp only [Act.put, List.getElem_toArray, List.getElem_cons_succ, List.getElem_cons_zero, List.setIfInBounds_toArray, List.set_cons_zero, List.set_cons_succ]
        refine wpAnyH_ready (rs := [22]) (by kernel_rfl) (by simp) ?_
        refine AllReadyH.cons (by rfl) (fun K hK => ?_) AllReadyH.nil
        go_simp
        refine (rnum_at b off 12 8 _ l _ (by have := HL.out; omega) (HR.out.alloc (.cells (kl zk).toArray 25)).drew (by decide)).mono ?_
        rintro e y30 ⟨rfl, rfl⟩
        clear hHeld
        go_wp2_with fail
        refine hK.out _ _ ⟨(rd2 (HR.out.alloc (.cells (kl zk).toArray 25)).drew (by have := HL.out; omega)).1, (rd2 (HR.out.alloc (.cells (kl zk).toArray 25)).drew (by have := HL.out; omega)).2, (HR.out.alloc (.cells (kl zk).toArray 25)).drew⟩ (fun hHeld => ?_)
        clear hK K
        try simp only [Act.put, List.getElem_toArray, List.getElem_cons_succ, List.getElem_cons_zero, List.setIfInBounds_toArray, List.set_cons_zero, List.set_cons_succ]
        refine wpAnyH_ready (rs := [23]) (by kernel_rfl) (by simp) ?_
        refine AllReadyH.cons (by rfl) (fun K hK => ?_) AllReadyH.nil
        go_simp
        refine (rsigned_any _ _ H8.out).mono ?_
        rintro e y31 ⟨rfl, rfl⟩
        clear hHeld
        go_wp2_with fail
        refine hK.out _ _ ⟨(rd2 (HR.out.alloc (.cells (kl zk).toArray 25)).drew (by have := HL.out; omega)).1, (rd2 (HR.out.alloc (.cells (kl zk).toArray 25)).drew (by have := HL.out; omega)).2, (HR.out.alloc (.cells (kl zk).toArray 25)).drew⟩ (fun hHeld => ?_)
        clear hK K
        try simp only [Act.put, List.getElem_toArray, List.getElem_cons_succ, List.getElem_cons_zero, List.setIfInBounds_toArray, List.set_cons_zero, List.set_cons_succ]
        refine wpAnyH_take (i := 24) (v := ?v55) rfl (by kernel_rfl) (by kernel_rfl) (by kernel_rfl) (fun _ _ _ h => h) (Or.inl ⟨by rfl, ?hy55⟩) hHeld ?rest55
        case hy55 =>
          intro w' hSw
          try dsimp only at hSw
          go_simp
          first | done | with_reducible rfl
        try simp only [Act.put, List.getElem_toArray, List.getElem_cons_succ, List.getElem_cons_zero, List.setIfInBounds_toArray, List.set_cons_zero, List.set_cons_succ]
        refine wpAnyH_ready (rs := [26]) (by kernel_rfl) (by simp) ?_
        refine AllReadyH.cons (by rfl) (fun K hK => ?_) AllReadyH.nil
        clear hHeld
        refine step_store_newd rfl 25 (.tmp 4) (.tmp 33) rfl (by first | rfl | (simp; rfl)) (kl (kof l)).toArray (kl zk).toArray rfl size25 rfl (kl_all _) ?_
        refine hK.out _ _ ⟨(rd2 (HR.out.alloc (.cells (kl (kof l)).toArray 25)).drew (by have := HL.out; omega)).1, (rd2 (HR.out.alloc (.cells (kl (kof l)).toArray 25)).drew (by have := HL.out; omega)).2, (HR.out.alloc (.cells (kl (kof l)).toArray 25)).drew⟩ (fun hHeld => ?_)
        clear hK K
        try simp only [Act.put, List.getElem_toArray, List.getElem_cons_succ, List.getElem_cons_zero]
        refine wpAnyH_done (by kernel_rfl) ?_ _
        refine OnlyN.normal ?_
        clear hHeld
        have hB := (HB.out.alloc HB.out.size (.cells (kl (kof l)).toArray 25)).drew
        have hK := Blk.drew (Blk.new_of (w.alloc (.cells (kl zk).toArray 25)) 25 (kl (kof l)).toArray (g := w.heap.size + 1) (by simp))
        have hZ := Blk.drew (Blk.alloc (Blk.new w 25 (kl zk).toArray) (.cells (kl (kof l)).toArray 25))
        have g0 : (kl (kof l))[0]? = some (.int .i64 (kof l).k) := rfl
        have g1 : (kl (kof l))[1]? = some (.int .i64 (kof l).o) := rfl
        have g2 : (kl (kof l))[2]? = some (.int .i64 (kof l).c) := rfl
        have g3 : (kl (kof l))[3]? = some (.int .i64 (kof l).l) := rfl
        have g4 : (kl (kof l))[4]? = some (.int .i64 (kof l).r) := rfl
        have g5 : (kl (kof l))[5]? = some (.int .i64 (kof l).v) := rfl
        have BW := Lib.hid hB
        have KW := Lib.hid hK
        have ZW := Lib.hid hZ
        clear hB hK hZ n2 n4 n8 n12 w1 w2 w3 w4 w8 l1 l2 l3 l4 l5
        go_wp2_with (first
          | (go_at_call 27; refine (rchk_any (kof l) _).mono ?_; rw [HC.out]; rintro e w9 ⟨rfl, hb⟩; have B9 := Lib.hid (BW.out.trans (hb.mono BW.out.size)); have Z9 := Lib.hid (Blk.keep ZW.out hb); obtain ⟨c0, c1, c2, c3, c4, c5⟩ := Blk.six (Blk.keep KW.out hb); clear hb)
          | (refine wpList_store_row rfl 25 (.tmp 2) (.tmp 37) rfl w.heap.size (kl (zk)).toArray rfl rfl 25 (kl zk).toArray Z9.out size25 rfl (kl_all _) ?_))
        have h4 := setRow_heap w9 w.heap.size (kl zk).toArray (kl (zk)).toArray 25 (0, 0) Z9.out
        have h5 : Below w.heap.size w (w9.setRow w.heap.size (kl (zk)).toArray) := B9.out.trans (below_lt (setRow_fr w9 _ _) B9.out.size (fun j hj => by omega))
        exact bodyPost_ret (res_1t rfl _ _ w.heap.size _ _ rfl rfl (load_key (zk) h4)) rfl ⟨rfl, h5⟩
    · go_simp
      clear hHeld
      refine hK.out _ _ ⟨(rd2 (HR.out.alloc (.cells (kl zk).toArray 25)).drew (by have := HL.out; omega)).1, (rd2 (HR.out.alloc (.cells (kl zk).toArray 25)).drew (by have := HL.out; omega)).2, (HR.out.alloc (.cells (kl zk).toArray 25)).drew⟩ (fun hHeld => ?_)
      clear hK K
      try simp only [Act.put, List.getElem_toArray, List.getElem_cons_succ, List.getElem_cons_zero, List.setIfInBounds_toArray, List.set_cons_zero, List.set_cons_succ]
      refine wpAnyH_ready (rs := [14]) (by kernel_rfl) (by simp) ?_
      refine AllReadyH.cons (by rfl) (fun K hK => ?_) AllReadyH.nil
      go_simp
      refine (rnum_at b off 4 4 _ l _ (by have := HL.out; omega) (HR.out.alloc (.cells (kl zk).toArray 25)).drew (by decide)).mono ?_
      rintro e y32 ⟨rfl, rfl⟩
      clear hHeld
      go_wp2_with fail
      refine hK.out _ _ ⟨(rd2 (HR.out.alloc (.cells (kl zk).toArray 25)).drew (by have := HL.out; omega)).1, (rd2 (HR.out.alloc (.cells (kl zk).toArray 25)).drew (by have := HL.out; omega)).2, (HR.out.alloc (.cells (kl zk).toArray 25)).drew⟩ (fun hHeld => ?_)
      clear hK K
      try simp only [Act.put, List.getElem_toArray, List.getElem_cons_succ, List.getElem_cons_zero, List.setIfInBounds_toArray, List.set_cons_zero, List.set_cons_succ]
      refine wpAnyH_take (i := 15) (v := ?v56) rfl (by kernel_rfl) (by kernel_rfl) (by kernel_rfl) (fun _ _ _ h => h) (Or.inl ⟨by rfl, ?hy56⟩) hHeld ?rest56
      case hy56 =>
        intro w' hSw
        try dsimp only at hSw
        go_simp
        first | done | with_reducible rfl
      try simp only [Act.put, List.getElem_toArray, List.getElem_cons_succ, List.getElem_cons_zero, List.setIfInBounds_toArray, List.set_cons_zero, List.set_cons_succ]
      refine wpAnyH_ready (rs := [18]) (by kernel_rfl) (by simp) ?_
      refine AllReadyH.cons (by rfl) (fun K hK => ?_) AllReadyH.nil
      go_simp
      refine (rnum_at b off 8 4 _ l _ (by have := HL.out; omega) (HR.out.alloc (.cells (kl zk).toArray 25)).drew (by decide)).mono ?_
      rintro e y33 ⟨rfl, rfl⟩
      clear hHeld
      go_wp2_with fail
      refine hK.out _ _ ⟨(rd2 (HR.out.alloc (.cells (kl zk).toArray 25)).drew (by have := HL.out; omega)).1, (rd2 (HR.out.alloc (.cells (kl zk).toArray 25)).drew (by have := HL.out; omega)).2, (HR.out.alloc (.cells (kl zk).toArray 25)).drew⟩ (fun hHeld => ?_)
      clear hK K
      try simp only [Act.put, List.getElem_toArray, List.getElem_cons_succ, List.getElem_cons_zero, List.setIfInBounds_toArray, List.set_cons_zero, List.set_cons_succ]
      refine wpAnyH_take (i := 19) (v := ?v57) rfl (by kernel_rfl) (by kernel_rfl) (by kernel_rfl) (fun _ _ _ h => h) (Or.inl ⟨by rfl, ?hy57⟩) hHeld ?rest57
      case hy57 =>
        intro w' hSw
        try dsimp only at hSw
        go_simp
        first | done | with_reducible rfl
      try simp only [Act.put, List.getElem_toArray, List.getElem_cons_succ, List.getElem_cons_zero, List.setIfInBounds_toArray, List.set_cons_zero, List.set_cons_succ]
      refine wpAnyH_ready (rs := [22]) (by kernel_rfl) (by simp) ?_
      refine AllReadyH.cons (by rfl) (fun K hK => ?_) AllReadyH.nil
      go_simp
      refine (rnum_at b off 12 8 _ l _ (by have := HL.out; omega) (HR.out.alloc (.cells (kl zk).toArray 25)).drew (by decide)).mono ?_
      rintro e y34 ⟨rfl, rfl⟩
      clear hHeld
      go_wp2_with fail
      refine hK.out _ _ ⟨(rd2 (HR.out.alloc (.cells (kl zk).toArray 25)).drew (by have := HL.out; omega)).1, (rd2 (HR.out.alloc (.cells (kl zk).toArray 25)).drew (by have := HL.out; omega)).2, (HR.out.alloc (.cells (kl zk).toArray 25)).drew⟩ (fun hHeld => ?_)
      clear hK K
      try simp only [Act.put, List.getElem_toArray, List.getElem_cons_succ, List.getElem_cons_zero, List.setIfInBounds_toArray, List.set_cons_zero, List.set_cons_succ]
      refine wpAnyH_ready (rs := [23]) (by kernel_rfl) (by simp) ?_
      refine AllReadyH.cons (by rfl) (fun K hK => ?_) AllReadyH.nil
      go_simp
      refine (rsigned_any _ _ H8.out).mono ?_
      rintro e y35 ⟨rfl, rfl⟩
      clear hHeld
      go_wp2_with fail
      refine hK.out _ _ ⟨(rd2 (HR.out.alloc (.cells (kl zk).toArray 25)).drew (by have := HL.out; omega)).1, (rd2 (HR.out.alloc (.cells (kl zk).toArray 25)).drew (by have := HL.out; omega)).2, (HR.out.alloc (.cells (kl zk).toArray 25)).drew⟩ (fun hHeld => ?_)
      clear hK K
      try simp only [Act.put, List.getElem_toArray, List.getElem_cons_succ, List.getElem_cons_zero, List.setIfInBounds_toArray, List.set_cons_zero, List.set_cons_succ]
      refine wpAnyH_take (i := 24) (v := ?v58) rfl (by kernel_rfl) (by kernel_rfl) (by kernel_rfl) (fun _ _ _ h => h) (Or.inl ⟨by rfl, ?hy58⟩) hHeld ?rest58
      case hy58 =>
        intro w' hSw
        try dsimp only at hSw
        go_simp
        first | done | with_reducible rfl
      try simp only [Act.put, List.getElem_toArray, List.getElem_cons_succ, List.getElem_cons_zero, List.setIfInBounds_toArray, List.set_cons_zero, List.set_cons_succ]
      refine wpAnyH_ready (rs := [26]) (by kernel_rfl) (by simp) ?_
      refine AllReadyH.cons (by rfl) (fun K hK => ?_) AllReadyH.nil
      clear hHeld
      refine step_store_newd rfl 25 (.tmp 4) (.tmp 33) rfl (by first | rfl | (simp; rfl)) (kl (kof l)).toArray (kl zk).toArray rfl size25 rfl (kl_all _) ?_
      refine hK.out _ _ ⟨(rd2 (HR.out.alloc (.cells (kl (kof l)).toArray 25)).drew (by have := HL.out; omega)).1, (rd2 (HR.out.alloc (.cells (kl (kof l)).toArray 25)).drew (by have := HL.out; omega)).2, (HR.out.alloc (.cells (kl (kof l)).toArray 25)).drew⟩ (fun hHeld => ?_)
      clear hK K
      try simp only [Act.put, List.getElem_toArray, List.getElem_cons_succ, List.getElem_cons_zero]
      refine wpAnyH_done (by kernel_rfl) ?_ _
      refine OnlyN.normal ?_
      clear hHeld
      have hB := (HB.out.alloc HB.out.size (.cells (kl (kof l)).toArray 25)).drew
      have hK := Blk.drew (Blk.new_of (w.alloc (.cells (kl zk).toArray 25)) 25 (kl (kof l)).toArray (g := w.heap.size + 1) (by simp))
      have hZ := Blk.drew (Blk.alloc (Blk.new w 25 (kl zk).toArray) (.cells (kl (kof l)).toArray 25))
      have g0 : (kl (kof l))[0]? = some (.int .i64 (kof l).k) := rfl
      have g1 : (kl (kof l))[1]? = some (.int .i64 (kof l).o) := rfl
      have g2 : (kl (kof l))[2]? = some (.int .i64 (kof l).c) := rfl
      have g3 : (kl (kof l))[3]? = some (.int .i64 (kof l).l) := rfl
      have g4 : (kl (kof l))[4]? = some (.int .i64 (kof l).r) := rfl
      have g5 : (kl (kof l))[5]? = some (.int .i64 (kof l).v) := rfl
      have BW := Lib.hid hB
      have KW := Lib.hid hK
      have ZW := Lib.hid hZ
      clear hB hK hZ n2 n4 n8 n12 w1 w2 w3 w4 w8 l1 l2 l3 l4 l5
      go_wp2_with (first
        | (go_at_call 27; refine (rchk_any (kof l) _).mono ?_; rw [HC.out]; rintro e w9 ⟨rfl, hb⟩; have B9 := Lib.hid (BW.out.trans (hb.mono BW.out.size)); have Z9 := Lib.hid (Blk.keep ZW.out hb); obtain ⟨c0, c1, c2, c3, c4, c5⟩ := Blk.six (Blk.keep KW.out hb); clear hb)
        | (refine wpList_store_row rfl 25 (.tmp 2) (.tmp 37) rfl w.heap.size (kl (zk)).toArray rfl rfl 25 (kl zk).toArray Z9.out size25 rfl (kl_all _) ?_))
      have h4 := setRow_heap w9 w.heap.size (kl zk).toArray (kl (zk)).toArray 25 (0, 0) Z9.out
      have h5 : Below w.heap.size w (w9.setRow w.heap.size (kl (zk)).toArray) := B9.out.trans (below_lt (setRow_fr w9 _ _) B9.out.size (fun j hj => by omega))
      exact bodyPost_ret (res_1t rfl _ _ w.heap.size _ _ rfl rfl (load_key (zk) h4)) rfl ⟨rfl, h5⟩
  · go_simp
    clear hHeld
    refine hK.out _ _ ⟨(rd2 (HR.out.alloc (.cells (kl zk).toArray 25)).drew (by have := HL.out; omega)).1, (rd2 (HR.out.alloc (.cells (kl zk).toArray 25)).drew (by have := HL.out; omega)).2, (HR.out.alloc (.cells (kl zk).toArray 25)).drew⟩ (fun hHeld => ?_)
    clear hK K
    try simp only [Act.put, List.getElem_toArray, List.getElem_cons_succ, List.getElem_cons_zero, List.setIfInBounds_toArray, List.set_cons_zero, List.set_cons_succ]
    refine wpAnyH_ready (rs := [10]) (by kernel_rfl) (by simp) ?_
    refine AllReadyH.cons (by rfl) (fun K hK => ?_) AllReadyH.nil
    go_simp
    refine (rnum_at b off 2 2 _ l _ (by have := HL.out; omega) (HR.out.alloc (.cells (kl zk).toArray 25)).drew (by decide)).mono ?_
    rintro e y36 ⟨rfl, rfl⟩
    clear hHeld
    go_wp2_with fail
    refine hK.out _ _ ⟨(rd2 (HR.out.alloc (.cells (kl zk).toArray 25)).drew (by have := HL.out; omega)).1, (rd2 (HR.out.alloc (.cells (kl zk).toArray 25)).drew (by have := HL.out; omega)).2, (HR.out.alloc (.cells (kl zk).toArray 25)).drew⟩ (fun hHeld => ?_)
    clear hK K
    try simp only [Act.put, List.getElem_toArray, List.getElem_cons_succ, List.getElem_cons_zero, List.setIfInBounds_toArray, List.set_cons_zero, List.set_cons_succ]
    refine wpAnyH_take (i := 11) (v := ?v59) rfl (by kernel_rfl) (by kernel_rfl) (by kernel_rfl) (fun _ _ _ h => h) (Or.inl ⟨by rfl, ?hy59⟩) hHeld ?rest59
    case hy59 =>
      intro w' hSw
      try dsimp only at hSw
      go_simp
      first | done | with_reducible rfl
    try simp only [Act.put, List.getElem_toArray, List.getElem_cons_succ, List.getElem_cons_zero, List.setIfInBounds_toArray, List.set_cons_zero, List.set_cons_succ]
    refine wpAnyH_ready (rs := [14]) (by kernel_rfl) (by simp) ?_
    refine AllReadyH.cons (by rfl) (fun K hK => ?_) AllReadyH.nil
    go_simp
    refine (rnum_at b off 4 4 _ l _ (by have := HL.out; omega) (HR.out.alloc (.cells (kl zk).toArray 25)).drew (by decide)).mono ?_
    rintro e y37 ⟨rfl, rfl⟩
    clear hHeld
    go_wp2_with fail
    refine hK.out _ _ ⟨(rd2 (HR.out.alloc (.cells (kl zk).toArray 25)).drew (by have := HL.out; omega)).1, (rd2 (HR.out.alloc (.cells (kl zk).toArray 25)).drew (by have := HL.out; omega)).2, (HR.out.alloc (.cells (kl zk).toArray 25)).drew⟩ (fun hHeld => ?_)
    clear hK K
    try simp only [Act.put, List.getElem_toArray, List.getElem_cons_succ, List.getElem_cons_zero, List.setIfInBounds_toArray, List.set_cons_zero, List.set_cons_succ]
    refine wpAnyH_take (i := 15) (v := ?v60) rfl (by kernel_rfl) (by kernel_rfl) (by kernel_rfl) (fun _ _ _ h => h) (Or.inl ⟨by rfl, ?hy60⟩) hHeld ?rest60
    case hy60 =>
      intro w' hSw
      try dsimp only at hSw
      go_simp
      first | done | with_reducible rfl
    try simp only [Act.put, List.getElem_toArray, List.getElem_cons_succ, List.getElem_cons_zero, List.setIfInBounds_toArray, List.set_cons_zero, List.set_cons_succ]
    refine wpAnyH_ready (rs := [18]) (by kernel_rfl) (by simp) ?_
    refine AllReadyH.cons (by rfl) (fun K hK => ?_) AllReadyH.nil
    go_simp
    refine (rnum_at b off 8 4 _ l _ (by have := HL.out; omega) (HR.out.alloc (.cells (kl zk).toArray 25)).drew (by decide)).mono ?_
    rintro e y38 ⟨rfl, rfl⟩
    clear hHeld
    go_wp2_with fail
    refine hK.out _ _ ⟨(rd2 (HR.out.alloc (.cells (kl zk).toArray 25)).drew (by have := HL.out; omega)).1, (rd2 (HR.out.alloc (.cells (kl zk).toArray 25)).drew (by have := HL.out; omega)).2, (HR.out.alloc (.cells (kl zk).toArray 25)).drew⟩ (fun hHeld => ?_)
    clear hK K
    try simp only [Act.put, List.getElem_toArray, List.getElem_cons_succ, List.getElem_cons_zero, List.setIfInBounds_toArray, List.set_cons_zero, List.set_cons_succ]
    refine wpAnyH_take (i := 19) (v := ?v61) rfl (by kernel_rfl) (by kernel_rfl) (by kernel_rfl) (fun _ _ _ h => h) (Or.inl ⟨by rfl, ?hy61⟩) hHeld ?rest61
    case hy61 =>
      intro w' hSw
      try dsimp only at hSw
      go_simp
      first | done | with_reducible rfl
    try simp only [Act.put, List.getElem_toArray, List.getElem_cons_succ, List.getElem_cons_zero, List.setIfInBounds_toArray, List.set_cons_zero, List.set_cons_succ]
    refine wpAnyH_ready (rs := [22]) (by kernel_rfl) (by simp) ?_
    refine AllReadyH.cons (by rfl) (fun K hK => ?_) AllReadyH.nil
    go_simp
    refine (rnum_at b off 12 8 _ l _ (by have := HL.out; omega) (HR.out.alloc (.cells (kl zk).toArray 25)).drew (by decide)).mono ?_
    rintro e y39 ⟨rfl, rfl⟩
    clear hHeld
    go_wp2_with fail
    refine hK.out _ _ ⟨(rd2 (HR.out.alloc (.cells (kl zk).toArray 25)).drew (by have := HL.out; omega)).1, (rd2 (HR.out.alloc (.cells (kl zk).toArray 25)).drew (by have := HL.out; omega)).2, (HR.out.alloc (.cells (kl zk).toArray 25)).drew⟩ (fun hHeld => ?_)
    clear hK K
    try simp only [Act.put, List.getElem_toArray, List.getElem_cons_succ, List.getElem_cons_zero, List.setIfInBounds_toArray, List.set_cons_zero, List.set_cons_succ]
    refine wpAnyH_ready (rs := [23]) (by kernel_rfl) (by simp) ?_
    refine AllReadyH.cons (by rfl) (fun K hK => ?_) AllReadyH.nil
    go_simp
    refine (rsigned_any _ _ H8.out).mono ?_
    rintro e y40 ⟨rfl, rfl⟩
    clear hHeld
    go_wp2_with fail
    refine hK.out _ _ ⟨(rd2 (HR.out.alloc (.cells (kl zk).toArray 25)).drew (by have := HL.out; omega)).1, (rd2 (HR.out.alloc (.cells (kl zk).toArray 25)).drew (by have := HL.out; omega)).2, (HR.out.alloc (.cells (kl zk).toArray 25)).drew⟩ (fun hHeld => ?_)
    clear hK K
    try simp only [Act.put, List.getElem_toArray, List.getElem_cons_succ, List.getElem_cons_zero, List.setIfInBounds_toArray, List.set_cons_zero, List.set_cons_succ]
    refine wpAnyH_take (i := 24) (v := ?v62) rfl (by kernel_rfl) (by kernel_rfl) (by kernel_rfl) (fun _ _ _ h => h) (Or.inl ⟨by rfl, ?hy62⟩) hHeld ?rest62
    case hy62 =>
      intro w' hSw
      try dsimp only at hSw
      go_simp
      first | done | with_reducible rfl
    try simp only [Act.put, List.getElem_toArray, List.getElem_cons_succ, List.getElem_cons_zero, List.setIfInBounds_toArray, List.set_cons_zero, List.set_cons_succ]
    refine wpAnyH_ready (rs := [26]) (by kernel_rfl) (by simp) ?_
    refine AllReadyH.cons (by rfl) (fun K hK => ?_) AllReadyH.nil
    clear hHeld
    refine step_store_newd rfl 25 (.tmp 4) (.tmp 33) rfl (by first | rfl | (simp; rfl)) (kl (kof l)).toArray (kl zk).toArray rfl size25 rfl (kl_all _) ?_
    refine hK.out _ _ ⟨(rd2 (HR.out.alloc (.cells (kl (kof l)).toArray 25)).drew (by have := HL.out; omega)).1, (rd2 (HR.out.alloc (.cells (kl (kof l)).toArray 25)).drew (by have := HL.out; omega)).2, (HR.out.alloc (.cells (kl (kof l)).toArray 25)).drew⟩ (fun hHeld => ?_)
    clear hK K
    try simp only [Act.put, List.getElem_toArray, List.getElem_cons_succ, List.getElem_cons_zero]
    refine wpAnyH_done (by kernel_rfl) ?_ _
    refine OnlyN.normal ?_
    clear hHeld
    have hB := (HB.out.alloc HB.out.size (.cells (kl (kof l)).toArray 25)).drew
    have hK := Blk.drew (Blk.new_of (w.alloc (.cells (kl zk).toArray 25)) 25 (kl (kof l)).toArray (g := w.heap.size + 1) (by simp))
    have hZ := Blk.drew (Blk.alloc (Blk.new w 25 (kl zk).toArray) (.cells (kl (kof l)).toArray 25))
    have g0 : (kl (kof l))[0]? = some (.int .i64 (kof l).k) := rfl
    have g1 : (kl (kof l))[1]? = some (.int .i64 (kof l).o) := rfl
    have g2 : (kl (kof l))[2]? = some (.int .i64 (kof l).c) := rfl
    have g3 : (kl (kof l))[3]? = some (.int .i64 (kof l).l) := rfl
    have g4 : (kl (kof l))[4]? = some (.int .i64 (kof l).r) := rfl
    have g5 : (kl (kof l))[5]? = some (.int .i64 (kof l).v) := rfl
    have BW := Lib.hid hB
    have KW := Lib.hid hK
    have ZW := Lib.hid hZ
    clear hB hK hZ n2 n4 n8 n12 w1 w2 w3 w4 w8 l1 l2 l3 l4 l5
    go_wp2_with (first
      | (go_at_call 27; refine (rchk_any (kof l) _).mono ?_; rw [HC.out]; rintro e w9 ⟨rfl, hb⟩; have B9 := Lib.hid (BW.out.trans (hb.mono BW.out.size)); have Z9 := Lib.hid (Blk.keep ZW.out hb); obtain ⟨c0, c1, c2, c3, c4, c5⟩ := Blk.six (Blk.keep KW.out hb); clear hb)
      | (refine wpList_store_row rfl 25 (.tmp 2) (.tmp 37) rfl w.heap.size (kl (zk)).toArray rfl rfl 25 (kl zk).toArray Z9.out size25 rfl (kl_all _) ?_))
    have h4 := setRow_heap w9 w.heap.size (kl zk).toArray (kl (zk)).toArray 25 (0, 0) Z9.out
    have h5 : Below w.heap.size w (w9.setRow w.heap.size (kl (zk)).toArray) := B9.out.trans (below_lt (setRow_fr w9 _ _) B9.out.size (fun j hj => by omega))
    exact bodyPost_ret (res_1t rfl _ _ w.heap.size _ _ rfl rfl (load_key (zk) h4)) rfl ⟨rfl, h5⟩
end Go.Proofs.YtjfpmadnlpcpfaaDoor
