/- the definition's Text: by kinds. -/
import Derived.Test.YtmpibbgciajnkaaDoorKTell
namespace Go.Proofs.YtmpibbgciajnkaaDoor
open Go.RowKit
attribute [local go_sem] Oper.semAt_some
set_option maxRecDepth 100000 in
set_option maxHeartbeats 1000000 in
theorem rtext_7 (o c l r v : Int) (w : World) (hP : P10 w) (h : OkK 7 o c l r v) (hv : -9223372036854775808 ≤ v ∧ v ≤ 9223372036854775807) :
    Calls Tryd.prog 28 #[.agg (kc 7 o c l r v)] w fun e w' => e = .returned (.string ((((st (kName 7)) ++ (sp ++ dec o)) ++ (sp ++ dec c)) ++ (sp ++ dec l))) ∧ Below w.heap.size w w' := by
  have HV := Lib.hid hv
  have HO := Lib.hid (okK_small h)
  have P0 := Lib.hid ((hP.alloc (.cells (kc 7 o c l r v) 25)).alloc (.cells #[.string { data := #[118, 111, 105, 100] }, .string { data := #[110, 117, 109, 98, 101, 114] }, .string { data := #[110, 111, 100, 101] }, .string { data := #[112, 97, 103, 101] }, .string { data := #[98, 97, 110, 107] }, .string { data := #[112, 114, 111, 99] }, .string { data := #[115, 116, 97, 114, 116] }, .string { data := #[114, 101, 115, 117, 109, 101] }, .string { data := #[100, 105, 115, 99, 114, 105, 109] }, .string { data := #[99, 108, 111, 99, 107] }, .string { data := #[99, 104, 101, 99, 107] }] 9))
  have F0 := Lib.hid (((Below.refl w.heap.size w).alloc (Nat.le_refl _) (.cells (kc 7 o c l r v) 25)).alloc (by simp) (.cells #[.string { data := #[118, 111, 105, 100] }, .string { data := #[110, 117, 109, 98, 101, 114] }, .string { data := #[110, 111, 100, 101] }, .string { data := #[112, 97, 103, 101] }, .string { data := #[98, 97, 110, 107] }, .string { data := #[112, 114, 111, 99] }, .string { data := #[115, 116, 97, 114, 116] }, .string { data := #[114, 101, 115, 117, 109, 101] }, .string { data := #[100, 105, 115, 99, 114, 105, 109] }, .string { data := #[99, 108, 111, 99, 107] }, .string { data := #[99, 104, 101, 99, 107] }] 9))
  have K0 := Lib.hid ((Blk.new w 25 (kc 7 o c l r v)).alloc (.cells #[.string { data := #[118, 111, 105, 100] }, .string { data := #[110, 117, 109, 98, 101, 114] }, .string { data := #[110, 111, 100, 101] }, .string { data := #[112, 97, 103, 101] }, .string { data := #[98, 97, 110, 107] }, .string { data := #[112, 114, 111, 99] }, .string { data := #[115, 116, 97, 114, 116] }, .string { data := #[114, 101, 115, 117, 109, 101] }, .string { data := #[100, 105, 115, 99, 114, 105, 109] }, .string { data := #[99, 108, 111, 99, 107] }, .string { data := #[99, 104, 101, 99, 107] }] 9))
  have HS := Lib.hid (show (st (kName 7)).size ≤ 8 by decide)
  have HS1 := Lib.hid (show sp.size = 1 from rfl)
  have Do := Lib.hid (dec_size o HO.out.1.1 HO.out.1.2)
  have Dc := Lib.hid (dec_size c HO.out.2.1.1 HO.out.2.1.2)
  have Dl := Lib.hid (dec_size l HO.out.2.2.1.1 HO.out.2.2.1.2)
  have Dr := Lib.hid (dec_size r HO.out.2.2.2.1 HO.out.2.2.2.2)
  have Dv := Lib.hid (dec_size v HV.out.1 HV.out.2)
  clear hP h hv
  go_enter Tryd.func28, Tryd.ntmps28
  go_wp2_with (go_at_call 32; refine (show Calls Tryd.prog _ #[.int .i64 7] _ (fun e w' => e = .returned (.tuple #[.bool true, .bool false, .bool true, .bool false]) ∧ _ = w') from names_any 7 _).mono ?_; rintro e w' ⟨rfl, rfl⟩)
  generalize ((w.alloc (.cells (kc 7 o c l r v) 25)).alloc (.cells #[.string { data := #[118, 111, 105, 100] }, .string { data := #[110, 117, 109, 98, 101, 114] }, .string { data := #[110, 111, 100, 101] }, .string { data := #[112, 97, 103, 101] }, .string { data := #[98, 97, 110, 107] }, .string { data := #[112, 114, 111, 99] }, .string { data := #[115, 116, 97, 114, 116] }, .string { data := #[114, 101, 115, 117, 109, 101] }, .string { data := #[100, 105, 115, 99, 114, 105, 109] }, .string { data := #[99, 108, 111, 99, 107] }, .string { data := #[99, 104, 101, 99, 107] }] 9)) = w0 at P0 F0 K0 ⊢
  refine wp_region_only (S := fun w' => w'.cell? ⟨w.heap.size, 1, none⟩ = some (.int .i64 o) ∧ w'.cell? ⟨w.heap.size, 2, none⟩ = some (.int .i64 c)) (by kernel_rfl) ⟨K0.out.drew.cell 1, K0.out.drew.cell 2⟩ (fun hHeld => ?_)
  refine wpAnyH_take (i := 0) (v := ?v19) rfl (by kernel_rfl) (by kernel_rfl) (by kernel_rfl) (fun _ _ _ h => h) (Or.inl ⟨by rfl, ?hy19⟩) hHeld ?rest19
  case hy19 =>
    intro w' hSw
    try dsimp only at hSw
    go_simp
    first | done | with_reducible rfl
  try simp only [Act.put, List.getElem_toArray, List.getElem_cons_zero, List.setIfInBounds_toArray, List.set_cons_zero, List.set_cons_succ]
  refine wpAnyH_take (i := 1) rfl (by kernel_rfl) (by kernel_rfl) (by kernel_rfl) (fun _ _ _ h => h) (yields_add (by rfl) _ _ (by rfl) ((st (kName 7))) (sp) (by rfl) (by rfl) (by have e0 := HS.out; have e1 := HS1.out; omega)) hHeld ?_
  try simp only [Act.put, List.getElem_toArray, List.getElem_cons_succ, List.getElem_cons_zero, List.setIfInBounds_toArray, List.set_cons_zero, List.set_cons_succ]
  refine wpAnyH_take (i := 2) (v := ?v20) rfl (by kernel_rfl) (by kernel_rfl) (by kernel_rfl) (fun _ _ _ h => h) (Or.inl ⟨by rfl, ?hy20⟩) hHeld ?rest20
  case hy20 =>
    intro w' hSw
    try dsimp only at hSw
    go_simp
    first | done | with_reducible rfl
  try simp only [Act.put, List.getElem_toArray, List.getElem_cons_succ, List.getElem_cons_zero, List.setIfInBounds_toArray, List.set_cons_zero, List.set_cons_succ]
  refine wpAnyH_take (i := 3) (v := ?v21) rfl (by kernel_rfl) (by kernel_rfl) (by kernel_rfl) (fun _ _ _ h => h) (Or.inl ⟨by rfl, ?hy21⟩) hHeld ?rest21
  case hy21 =>
    intro w' hSw
    try dsimp only at hSw
    go_simp
    first | done | with_reducible rfl
  try simp only [Act.put, List.getElem_toArray, List.getElem_cons_succ, List.getElem_cons_zero, List.setIfInBounds_toArray, List.set_cons_zero, List.set_cons_succ]
  refine wpAnyH_take (i := 7) (v := ?v22) rfl (by kernel_rfl) (by kernel_rfl) (by kernel_rfl) (fun _ _ _ h => h) (Or.inl ⟨by rfl, ?hy22⟩) hHeld ?rest22
  case hy22 =>
    intro w' hSw
    try dsimp only at hSw
    go_simp
    first | done | with_reducible rfl
  try simp only [Act.put, List.getElem_toArray, List.getElem_cons_succ, List.getElem_cons_zero, List.setIfInBounds_toArray, List.set_cons_zero, List.set_cons_succ]
  refine wpAnyH_take (i := 8) (v := ?v23) rfl (by kernel_rfl) (by kernel_rfl) (by kernel_rfl) (fun _ _ _ h => h) (Or.inl ⟨by rfl, ?hy23⟩) hHeld ?rest23
  case hy23 =>
    intro w' hSw
    try dsimp only at hSw
    go_simp
    first | done | with_reducible rfl
  try simp only [Act.put, List.getElem_toArray, List.getElem_cons_succ, List.getElem_cons_zero, List.setIfInBounds_toArray, List.set_cons_zero, List.set_cons_succ]
  refine wpAnyH_ready (rs := [4]) (by kernel_rfl) (by simp) ?_
  refine AllReadyH.cons (by rfl) (fun K hK => ?_) AllReadyH.nil
  go_simp
  refine (itoa_any o HO.out.1.1 HO.out.1.2 _ P0.out.drew).mono ?_
  rintro e x1 ⟨rfl, b_⟩
  have P1 := Lib.hid ((P0.out.drew).below b_)
  have F1 := Lib.hid ((below_drew F0.out).trans (b_.mono F0.out.size))
  have K1 := Lib.hid ((K0.out.drew).keep b_)
  clear b_ hHeld
  go_wp2_with fail
  refine hK.out _ _ ⟨(K1.out.cell 1), (K1.out.cell 2)⟩ (fun hHeld => ?_)
  clear hK K
  try simp only [Act.put, List.getElem_toArray, List.getElem_cons_succ, List.getElem_cons_zero, List.setIfInBounds_toArray, List.set_cons_zero, List.set_cons_succ]
  refine wpAnyH_take (i := 5) rfl (by kernel_rfl) (by kernel_rfl) (by kernel_rfl) (fun _ _ _ h => h) (yields_add (by rfl) _ _ (by rfl) ((st (kName 7)) ++ sp) (dec o) (by rfl) (by rfl) (by have e0 := HS.out; have e1 := HS1.out; have e2 := Do.out; have e3 := Dc.out; simp only [ByteArray.size_append]; omega)) hHeld ?_
  try simp only [Act.put, List.getElem_toArray, List.getElem_cons_succ, List.getElem_cons_zero, List.setIfInBounds_toArray, List.set_cons_zero, List.set_cons_succ]
  refine wpAnyH_take (i := 6) rfl (by kernel_rfl) (by kernel_rfl) (by kernel_rfl) (fun _ _ _ h => h) (yields_add (by rfl) _ _ (by rfl) (((st (kName 7)) ++ sp) ++ dec o) (sp) (by rfl) (by rfl) (by have e0 := HS.out; have e1 := HS1.out; have e2 := Do.out; have e3 := Dc.out; simp only [ByteArray.size_append]; omega)) hHeld ?_
  try simp only [Act.put, List.getElem_toArray, List.getElem_cons_succ, List.getElem_cons_zero, List.setIfInBounds_toArray, List.set_cons_zero, List.set_cons_succ]
  refine wpAnyH_ready (rs := [9]) (by kernel_rfl) (by simp) ?_
  refine AllReadyH.cons (by rfl) (fun K hK => ?_) AllReadyH.nil
  go_simp
  refine (fmt_any c HO.out.2.1.1 HO.out.2.1.2 _ P1.out).mono ?_
  rintro e x2 ⟨rfl, b_⟩
  have P2 := Lib.hid ((P1.out).below b_)
  have F2 := Lib.hid ((F1.out).trans (b_.mono F1.out.size))
  have K2 := Lib.hid ((K1.out).keep b_)
  clear b_ hHeld
  go_wp2_with fail
  refine hK.out _ _ ⟨(K2.out.cell 1), (K2.out.cell 2)⟩ (fun hHeld => ?_)
  clear hK K
  try simp only [Act.put, List.getElem_toArray, List.getElem_cons_succ, List.getElem_cons_zero, List.setIfInBounds_toArray, List.set_cons_zero, List.set_cons_succ]
  refine wpAnyH_take (i := 10) rfl (by kernel_rfl) (by kernel_rfl) (by kernel_rfl) (fun _ _ _ h => h) (yields_add (by rfl) _ _ (by rfl) ((((st (kName 7)) ++ sp) ++ dec o) ++ sp) (dec c) (by rfl) (by rfl) (by have e0 := HS.out; have e1 := HS1.out; have e2 := Do.out; have e3 := Dc.out; simp only [ByteArray.size_append]; omega)) hHeld ?_
  try simp only [Act.put, List.getElem_toArray, List.getElem_cons_succ, List.getElem_cons_zero, List.setIfInBounds_toArray, List.set_cons_zero, List.set_cons_succ]
  refine wpAnyH_take (i := 11) (v := ?v24) rfl (by kernel_rfl) (by kernel_rfl) (by kernel_rfl) (fun _ _ _ h => h) (Or.inl ⟨by rfl, ?hy24⟩) hHeld ?rest24
  case hy24 =>
    intro w' hSw
    try dsimp only at hSw
    go_simp
    first | done | with_reducible rfl
  try simp only [Act.put, List.getElem_toArray, List.getElem_cons_succ, List.getElem_cons_zero, List.setIfInBounds_toArray, List.set_cons_zero, List.set_cons_succ]
  refine wpAnyH_done (by kernel_rfl) ?_ _
  refine OnlyN.normal ?_
  clear hHeld P0 F0 K0 P1 F1 K1
  obtain ⟨c0, c1, c2, c3, c4, c5⟩ := K2.out.six
  obtain ⟨tt, htt⟩ : ∃ t : ByteArray, t = ((((st (kName 7)) ++ sp) ++ dec o) ++ sp) ++ dec c := ⟨_, rfl⟩
  rw [← htt]
  have HTT := Lib.hid htt
  have hts : tt.size ≤ 60 := by have e0 := HS.out; have e1 := HS1.out; have e2 := Do.out; have e3 := Dc.out; rw [htt]; simp only [ByteArray.size_append]; omega
  have HTS := Lib.hid hts
  clear htt hts
  go_wp2_with (first
    | (go_at_call 40; (with_reducible refine (fmt_any l HO.out.2.2.1.1 HO.out.2.2.1.2 _ P2.out).mono ?_); rintro e xl_ ⟨rfl, b_⟩; have Pl_ := Lib.hid (P2.out.below b_); have Fl_ := Lib.hid (F2.out.trans (b_.mono F2.out.size)); have Kl_ := Lib.hid (K2.out.keep b_); clear b_ c0 c1 c2 c3 c4 c5; obtain ⟨c0, c1, c2, c3, c4, c5⟩ := Kl_.out.six))
  all_goals first
    | (exfalso; have e0 := Do.out; have e1 := Dc.out; have e2 := Dl.out; have e3 := Dr.out; have e4 := Dv.out; have e5 := HTS.out; omega)
    | (go_ret; exact ⟨ret_s (show (tt ++ { data := #[32] } ++ dec l : ByteArray) = ((((st (kName 7)) ++ (sp ++ dec o)) ++ (sp ++ dec c)) ++ (sp ++ dec l)) from (by rw [HTT.out]; simp only [sp, ByteArray.append_assoc])), Fl_.out⟩)
set_option maxRecDepth 100000 in
set_option maxHeartbeats 1000000 in
theorem rtext_2 (o c l r v : Int) (w : World) (hP : P10 w) (h : OkK 2 o c l r v) (hv : -9223372036854775808 ≤ v ∧ v ≤ 9223372036854775807) :
    Calls Tryd.prog 28 #[.agg (kc 2 o c l r v)] w fun e w' => e = .returned (.string ((((st (kName 2)) ++ (sp ++ dec o)) ++ (sp ++ dec c)) ++ (sp ++ dec r))) ∧ Below w.heap.size w w' := by
  have HV := Lib.hid hv
  have HO := Lib.hid (okK_small h)
  have P0 := Lib.hid ((hP.alloc (.cells (kc 2 o c l r v) 25)).alloc (.cells #[.string { data := #[118, 111, 105, 100] }, .string { data := #[110, 117, 109, 98, 101, 114] }, .string { data := #[110, 111, 100, 101] }, .string { data := #[112, 97, 103, 101] }, .string { data := #[98, 97, 110, 107] }, .string { data := #[112, 114, 111, 99] }, .string { data := #[115, 116, 97, 114, 116] }, .string { data := #[114, 101, 115, 117, 109, 101] }, .string { data := #[100, 105, 115, 99, 114, 105, 109] }, .string { data := #[99, 108, 111, 99, 107] }, .string { data := #[99, 104, 101, 99, 107] }] 9))
  have F0 := Lib.hid (((Below.refl w.heap.size w).alloc (Nat.le_refl _) (.cells (kc 2 o c l r v) 25)).alloc (by simp) (.cells #[.string { data := #[118, 111, 105, 100] }, .string { data := #[110, 117, 109, 98, 101, 114] }, .string { data := #[110, 111, 100, 101] }, .string { data := #[112, 97, 103, 101] }, .string { data := #[98, 97, 110, 107] }, .string { data := #[112, 114, 111, 99] }, .string { data := #[115, 116, 97, 114, 116] }, .string { data := #[114, 101, 115, 117, 109, 101] }, .string { data := #[100, 105, 115, 99, 114, 105, 109] }, .string { data := #[99, 108, 111, 99, 107] }, .string { data := #[99, 104, 101, 99, 107] }] 9))
  have K0 := Lib.hid ((Blk.new w 25 (kc 2 o c l r v)).alloc (.cells #[.string { data := #[118, 111, 105, 100] }, .string { data := #[110, 117, 109, 98, 101, 114] }, .string { data := #[110, 111, 100, 101] }, .string { data := #[112, 97, 103, 101] }, .string { data := #[98, 97, 110, 107] }, .string { data := #[112, 114, 111, 99] }, .string { data := #[115, 116, 97, 114, 116] }, .string { data := #[114, 101, 115, 117, 109, 101] }, .string { data := #[100, 105, 115, 99, 114, 105, 109] }, .string { data := #[99, 108, 111, 99, 107] }, .string { data := #[99, 104, 101, 99, 107] }] 9))
  have HS := Lib.hid (show (st (kName 2)).size ≤ 8 by decide)
  have HS1 := Lib.hid (show sp.size = 1 from rfl)
  have Do := Lib.hid (dec_size o HO.out.1.1 HO.out.1.2)
  have Dc := Lib.hid (dec_size c HO.out.2.1.1 HO.out.2.1.2)
  have Dl := Lib.hid (dec_size l HO.out.2.2.1.1 HO.out.2.2.1.2)
  have Dr := Lib.hid (dec_size r HO.out.2.2.2.1 HO.out.2.2.2.2)
  have Dv := Lib.hid (dec_size v HV.out.1 HV.out.2)
  clear hP h hv
  go_enter Tryd.func28, Tryd.ntmps28
  go_wp2_with (go_at_call 32; refine (show Calls Tryd.prog _ #[.int .i64 2] _ (fun e w' => e = .returned (.tuple #[.bool true, .bool true, .bool false, .bool false]) ∧ _ = w') from names_any 2 _).mono ?_; rintro e w' ⟨rfl, rfl⟩)
  generalize ((w.alloc (.cells (kc 2 o c l r v) 25)).alloc (.cells #[.string { data := #[118, 111, 105, 100] }, .string { data := #[110, 117, 109, 98, 101, 114] }, .string { data := #[110, 111, 100, 101] }, .string { data := #[112, 97, 103, 101] }, .string { data := #[98, 97, 110, 107] }, .string { data := #[112, 114, 111, 99] }, .string { data := #[115, 116, 97, 114, 116] }, .string { data := #[114, 101, 115, 117, 109, 101] }, .string { data := #[100, 105, 115, 99, 114, 105, 109] }, .string { data := #[99, 108, 111, 99, 107] }, .string { data := #[99, 104, 101, 99, 107] }] 9)) = w0 at P0 F0 K0 ⊢
  refine wp_region_only (S := fun w' => w'.cell? ⟨w.heap.size, 1, none⟩ = some (.int .i64 o) ∧ w'.cell? ⟨w.heap.size, 2, none⟩ = some (.int .i64 c)) (by kernel_rfl) ⟨K0.out.drew.cell 1, K0.out.drew.cell 2⟩ (fun hHeld => ?_)
  refine wpAnyH_take (i := 0) (v := ?v25) rfl (by kernel_rfl) (by kernel_rfl) (by kernel_rfl) (fun _ _ _ h => h) (Or.inl ⟨by rfl, ?hy25⟩) hHeld ?rest25
  case hy25 =>
    intro w' hSw
    try dsimp only at hSw
    go_simp
    first | done | with_reducible rfl
  try simp only [Act.put, List.getElem_toArray, List.getElem_cons_zero, List.setIfInBounds_toArray, List.set_cons_zero, List.set_cons_succ]
  refine wpAnyH_take (i := 1) rfl (by kernel_rfl) (by kernel_rfl) (by kernel_rfl) (fun _ _ _ h => h) (yields_add (by rfl) _ _ (by rfl) ((st (kName 2))) (sp) (by rfl) (by rfl) (by have e0 := HS.out; have e1 := HS1.out; omega)) hHeld ?_
  try simp only [Act.put, List.getElem_toArray, List.getElem_cons_succ, List.getElem_cons_zero, List.setIfInBounds_toArray, List.set_cons_zero, List.set_cons_succ]
  refine wpAnyH_take (i := 2) (v := ?v26) rfl (by kernel_rfl) (by kernel_rfl) (by kernel_rfl) (fun _ _ _ h => h) (Or.inl ⟨by rfl, ?hy26⟩) hHeld ?rest26
  case hy26 =>
    intro w' hSw
    try dsimp only at hSw
    go_simp
    first | done | with_reducible rfl
  try simp only [Act.put, List.getElem_toArray, List.getElem_cons_succ, List.getElem_cons_zero, List.setIfInBounds_toArray, List.set_cons_zero, List.set_cons_succ]
  refine wpAnyH_take (i := 3) (v := ?v27) rfl (by kernel_rfl) (by kernel_rfl) (by kernel_rfl) (fun _ _ _ h => h) (Or.inl ⟨by rfl, ?hy27⟩) hHeld ?rest27
  case hy27 =>
    intro w' hSw
    try dsimp only at hSw
    go_simp
    first | done | with_reducible rfl
  try simp only [Act.put, List.getElem_toArray, List.getElem_cons_succ, List.getElem_cons_zero, List.setIfInBounds_toArray, List.set_cons_zero, List.set_cons_succ]
  refine wpAnyH_take (i := 7) (v := ?v28) rfl (by kernel_rfl) (by kernel_rfl) (by kernel_rfl) (fun _ _ _ h => h) (Or.inl ⟨by rfl, ?hy28⟩) hHeld ?rest28
  case hy28 =>
    intro w' hSw
    try dsimp only at hSw
    go_simp
    first | done | with_reducible rfl
  try simp only [Act.put, List.getElem_toArray, List.getElem_cons_succ, List.getElem_cons_zero, List.setIfInBounds_toArray, List.set_cons_zero, List.set_cons_succ]
  refine wpAnyH_take (i := 8) (v := ?v29) rfl (by kernel_rfl) (by kernel_rfl) (by kernel_rfl) (fun _ _ _ h => h) (Or.inl ⟨by rfl, ?hy29⟩) hHeld ?rest29
  case hy29 =>
    intro w' hSw
    try dsimp only at hSw
    go_simp
    first | done | with_reducible rfl
  try simp only [Act.put, List.getElem_toArray, List.getElem_cons_succ, List.getElem_cons_zero, List.setIfInBounds_toArray, List.set_cons_zero, List.set_cons_succ]
  refine wpAnyH_ready (rs := [4]) (by kernel_rfl) (by simp) ?_
  refine AllReadyH.cons (by rfl) (fun K hK => ?_) AllReadyH.nil
  go_simp
  refine (itoa_any o HO.out.1.1 HO.out.1.2 _ P0.out.drew).mono ?_
  rintro e x1 ⟨rfl, b_⟩
  have P1 := Lib.hid ((P0.out.drew).below b_)
  have F1 := Lib.hid ((below_drew F0.out).trans (b_.mono F0.out.size))
  have K1 := Lib.hid ((K0.out.drew).keep b_)
  clear b_ hHeld
  go_wp2_with fail
  refine hK.out _ _ ⟨(K1.out.cell 1), (K1.out.cell 2)⟩ (fun hHeld => ?_)
  clear hK K
  try simp only [Act.put, List.getElem_toArray, List.getElem_cons_succ, List.getElem_cons_zero, List.setIfInBounds_toArray, List.set_cons_zero, List.set_cons_succ]
  refine wpAnyH_take (i := 5) rfl (by kernel_rfl) (by kernel_rfl) (by kernel_rfl) (fun _ _ _ h => h) (yields_add (by rfl) _ _ (by rfl) ((st (kName 2)) ++ sp) (dec o) (by rfl) (by rfl) (by have e0 := HS.out; have e1 := HS1.out; have e2 := Do.out; have e3 := Dc.out; simp only [ByteArray.size_append]; omega)) hHeld ?_
  try simp only [Act.put, List.getElem_toArray, List.getElem_cons_succ, List.getElem_cons_zero, List.setIfInBounds_toArray, List.set_cons_zero, List.set_cons_succ]
  refine wpAnyH_take (i := 6) rfl (by kernel_rfl) (by kernel_rfl) (by kernel_rfl) (fun _ _ _ h => h) (yields_add (by rfl) _ _ (by rfl) (((st (kName 2)) ++ sp) ++ dec o) (sp) (by rfl) (by rfl) (by have e0 := HS.out; have e1 := HS1.out; have e2 := Do.out; have e3 := Dc.out; simp only [ByteArray.size_append]; omega)) hHeld ?_
  try simp only [Act.put, List.getElem_toArray, List.getElem_cons_succ, List.getElem_cons_zero, List.setIfInBounds_toArray, List.set_cons_zero, List.set_cons_succ]
  refine wpAnyH_ready (rs := [9]) (by kernel_rfl) (by simp) ?_
  refine AllReadyH.cons (by rfl) (fun K hK => ?_) AllReadyH.nil
  go_simp
  refine (fmt_any c HO.out.2.1.1 HO.out.2.1.2 _ P1.out).mono ?_
  rintro e x2 ⟨rfl, b_⟩
  have P2 := Lib.hid ((P1.out).below b_)
  have F2 := Lib.hid ((F1.out).trans (b_.mono F1.out.size))
  have K2 := Lib.hid ((K1.out).keep b_)
  clear b_ hHeld
  go_wp2_with fail
  refine hK.out _ _ ⟨(K2.out.cell 1), (K2.out.cell 2)⟩ (fun hHeld => ?_)
  clear hK K
  try simp only [Act.put, List.getElem_toArray, List.getElem_cons_succ, List.getElem_cons_zero, List.setIfInBounds_toArray, List.set_cons_zero, List.set_cons_succ]
  refine wpAnyH_take (i := 10) rfl (by kernel_rfl) (by kernel_rfl) (by kernel_rfl) (fun _ _ _ h => h) (yields_add (by rfl) _ _ (by rfl) ((((st (kName 2)) ++ sp) ++ dec o) ++ sp) (dec c) (by rfl) (by rfl) (by have e0 := HS.out; have e1 := HS1.out; have e2 := Do.out; have e3 := Dc.out; simp only [ByteArray.size_append]; omega)) hHeld ?_
  try simp only [Act.put, List.getElem_toArray, List.getElem_cons_succ, List.getElem_cons_zero, List.setIfInBounds_toArray, List.set_cons_zero, List.set_cons_succ]
  refine wpAnyH_take (i := 11) (v := ?v30) rfl (by kernel_rfl) (by kernel_rfl) (by kernel_rfl) (fun _ _ _ h => h) (Or.inl ⟨by rfl, ?hy30⟩) hHeld ?rest30
  case hy30 =>
    intro w' hSw
    try dsimp only at hSw
    go_simp
    first | done | with_reducible rfl
  try simp only [Act.put, List.getElem_toArray, List.getElem_cons_succ, List.getElem_cons_zero, List.setIfInBounds_toArray, List.set_cons_zero, List.set_cons_succ]
  refine wpAnyH_done (by kernel_rfl) ?_ _
  refine OnlyN.normal ?_
  clear hHeld P0 F0 K0 P1 F1 K1
  obtain ⟨c0, c1, c2, c3, c4, c5⟩ := K2.out.six
  obtain ⟨tt, htt⟩ : ∃ t : ByteArray, t = ((((st (kName 2)) ++ sp) ++ dec o) ++ sp) ++ dec c := ⟨_, rfl⟩
  rw [← htt]
  have HTT := Lib.hid htt
  have hts : tt.size ≤ 60 := by have e0 := HS.out; have e1 := HS1.out; have e2 := Do.out; have e3 := Dc.out; rw [htt]; simp only [ByteArray.size_append]; omega
  have HTS := Lib.hid hts
  clear htt hts
  go_wp2_with (first
    | (go_at_call 41; (with_reducible refine (itoa_any r HO.out.2.2.2.1 HO.out.2.2.2.2 _ P2.out).mono ?_); rintro e xr_ ⟨rfl, b_⟩; have Pr_ := Lib.hid (P2.out.below b_); have Fr_ := Lib.hid (F2.out.trans (b_.mono F2.out.size)); have Kr_ := Lib.hid (K2.out.keep b_); clear b_ c0 c1 c2 c3 c4 c5; obtain ⟨c0, c1, c2, c3, c4, c5⟩ := Kr_.out.six))
  all_goals first
    | (exfalso; have e0 := Do.out; have e1 := Dc.out; have e2 := Dl.out; have e3 := Dr.out; have e4 := Dv.out; have e5 := HTS.out; omega)
    | (go_ret; exact ⟨ret_s (show (tt ++ { data := #[32] } ++ dec r : ByteArray) = ((((st (kName 2)) ++ (sp ++ dec o)) ++ (sp ++ dec c)) ++ (sp ++ dec r)) from (by rw [HTT.out]; simp only [sp, ByteArray.append_assoc])), Fr_.out⟩)
end Go.Proofs.YtmpibbgciajnkaaDoor
