/- codec: passObject. -/
import Derived.Test.YtfclkkbmgclfgaaDoorZM
namespace Go.Proofs.YtfclkkbmgclfgaaDoor
open Go.RowKit
abbrev ofs : Array Value := #[.func (.func 53) #[] #[], .func (.func 55) #[] #[], .func (.func 57) #[] #[], .func (.func 58) #[] #[], .func (.func 59) #[] #[], .func (.func 61) #[] #[], .func (.func 62) #[] #[]]
set_option maxRecDepth 8000 in
theorem objectFields_any (w : World) : Calls Tryd.prog 35 #[] w fun e w' => e = .returned (.agg ofs) ∧ Below w.heap.size w w' := by
  have hs : (Tryd.prog.info? 89).map (·.size) = some ofs.size := by kernel_rfl
  have HS := Lib.hid hs
  have HA := Lib.hid (show ofs.all (·.oneCell') = true by kernel_rfl)
  have HB := Lib.hid ((Below.refl w.heap.size w).alloc (Nat.le_refl _) (.cells ofs 89))
  clear hs
  go_enter Tryd.func35, Tryd.ntmps35
  go_wp2_with (refine wpList_store_new rfl 89 (.tmp 0) (.tmp 1) rfl _ rfl rfl ofs #[.nilFunc, .nilFunc, .nilFunc, .nilFunc, .nilFunc, .nilFunc, .nilFunc] rfl HS.out rfl HA.out ?_)
  exact bodyPost_ret (res_1 rfl _ _ w.heap.size (.agg ofs) rfl (run_loadVar_row _ _ 89 _ ofs (0, 0) _ (heap_alloc_new w _) Tryd.underlying89 rfl HS.out)) rfl ⟨rfl, HB.out⟩
/-- an object's bytes, with noughts up to 508 -/
def obs (u : Oj) : List UInt8 := [UInt8.ofNat u.k.toNat] ++ (List.replicate 3 0 ++ (bytesLE 4 u.c.toNat ++ (bytesLE 4 u.l.toNat ++ (kks u.s ++ (u.b ++ List.replicate 112 0)))))
set_option maxRecDepth 8000 in
theorem obs_length (u : Oj) : (obs u).length = 508 := by
  simp only [obs, List.length_append, List.length_cons, List.length_nil, List.length_replicate, bytesLE_length, kks_length, u.hs, u.hb]
structure Oj.fit (u : Oj) : Prop where
  k : 0 ≤ u.k ∧ u.k < 256
  c : 0 ≤ u.c ∧ u.c < 4294967296
  l : 0 ≤ u.l ∧ u.l < 4294967296
  s : ∀ x ∈ u.s, x.fit
/-- the object that bytes tell -/
def obof (l : List UInt8) : Oj where
  k := (b0 l).toNat
  c := numLE ((l.drop 4).take 4)
  l := numLE ((l.drop 8).take 4)
  s := kofs 16 (l.drop 12)
  b := (l.drop 332).take 64 ++ List.replicate (64 - ((l.drop 332).take 64).length) 0
  hs := kofs_length _ _
  hb := by rw [List.length_append, List.length_replicate, List.length_take]; omega
set_option maxRecDepth 8000 in
theorem obof_b {l : List UInt8} (h : l.length = 508) : (obof l).b = (l.drop 332).take 64 := by
  have : ((l.drop 332).take 64).length = 64 := by rw [List.length_take, List.length_drop]; omega
  simp only [obof, this, Nat.sub_self, List.replicate_zero, List.append_nil]
set_option maxRecDepth 8000 in
theorem rd_bytes {w : World} {K : Nat} {u : Oj} (h : Blk w K obt u.cells.toArray) : Rd w (some ⟨K, 99, none⟩) u.b := by
  intro j hj
  refine ⟨K, 99, rfl, ?_⟩
  have := (h.ob.bytes) j (.int .u8 ((u.b[j]).toNat : Int)) (by rw [bv_get, List.getElem?_eq_getElem hj]; rfl)
  simpa using this
set_option maxRecDepth 8000 in
theorem spl_bytes (k c l : Int) (s : List Ky) (hs : s.length = 16) (b b' : List UInt8) (hb : b.length = 64) (hb' : b'.length = 64) : spl (obc k c l s b) 99 b' = obc k c l s b' := by
  have hl : (kcs s).length = 96 := by rw [kcs_length, hs]
  unfold spl obc
  rw [hb']
  show .int .i64 k :: .int .i64 c :: .int .i64 l :: ((kcs s ++ bv b).take 96) ++ bv b' ++ (kcs s ++ bv b).drop 160 = _
  rw [List.take_left' hl, List.drop_of_length_le (by rw [List.length_append, hl, bv_length, hb]; omega), List.append_nil]
  rfl
end Go.Proofs.YtfclkkbmgclfgaaDoor
