/- law 2: small; begun of no bytes. -/
import Derived.Test.YtokbghpddgfnpaaMakesA
import Derived.Test.YtokbghpddgfnpaaRFail
namespace Go.Proofs.Ytokbghpddgfnpaa
open Go.RowKit
theorem DiskAt.base {w : World} {base base' p : Nat} {pl : Pl} {D : Dk} (h : DiskAt w base p pl D) (hb : base' ≤ base) : DiskAt w base' p pl D :=
  { h with
    row := own_base h.row hb
    bp := Nat.le_trans hb h.bp
    bm := Nat.le_trans hb h.bm
    bf := fun b e => Nat.le_trans hb (h.bf b e) }
set_option maxRecDepth 8000 in
set_option maxHeartbeats 400000 in
theorem small_any (w : World) (n : Int) : Calls Try.prog 9 #[.int .i64 n] w fun e w' => e = .returned (.bool (decide (1 ≤ n) && decide (n ≤ 12))) ∧ w = w' := by
  by_cases h : 1 ≤ n
  · have h1 : decide (1 ≤ n) = true := by simpa using h
    rw [h1, Bool.true_and]
    go_enter Try.func9, Try.ntmps9
    go_wp2
    go_ret
    exact ⟨rfl, rfl⟩
  · have h1 : decide (1 ≤ n) = false := by simpa using h
    rw [h1, Bool.false_and]
    go_enter Try.func9, Try.ntmps9
    go_wp2
    go_ret
    exact ⟨rfl, rfl⟩
set_option maxRecDepth 8000 in
theorem results_begun {fn : Func} {o p q : Tmp} (h : fn.results = #[.tmp o, .cell p 34, .tmp q]) (tmps : Array Value) (w : World) (g : Nat) (cs : Array Value) (hl : cs.size = 4)
    (hp : tmps.getD p undef = .pointer (some ⟨g, 0, none⟩)) (hg : Blk w g 34 cs) : (results fn tmps).run Try.prog w = .ok (.tuple #[tmps.getD o undef, .agg cs, tmps.getD q undef]) w := by
  have hp' : tmps[p]?.getD undef = .pointer (some ⟨g, 0, none⟩) := by simpa using hp
  have hl := run_loadVar_row (P := Try.prog) w g 34 34 cs (0, 0) _ hg Try.underlying34 rfl (by rw [hl]; exact size43)
  simp [results, h, hp', asAddr, hl]
set_option maxRecDepth 100000 in
set_option maxHeartbeats 1600000 in
theorem begun_nil (w : World) (s : Nat) (s1 : 1 ≤ s) (s2 : s ≤ 12) :
    Calls Try.prog 11 #[.int .i64 (s : Int), .slice none 0 0] w fun e w' => ∃ p pl A1 c1, e = .returned (.tuple #[.pointer (some ⟨p, 0, none⟩), Rp.val ⟨A1, s * 512, c1, none, 0, 0, none, 0, 0⟩ 0, .bool true]) ∧
      DiskAt w' w.heap.size p pl (ofD (List.replicate (s * 512) 0) s s) ∧ Below w.heap.size w w' := by
  have hz := z43
  obtain ⟨N, hN⟩ : ∃ N, N = s * 512 := ⟨_, rfl⟩
  have NE := Lib.hid hN
  have wr1 : IntKind.i64.wrap (512 * (s : Int)) = (N : Int) := by rw [show 512 * (s : Int) = (N : Int) by omega]; exact IntWalk.i64_in _ (by omega)
  have n1 : (N : Int) ≤ 3000000 := by omega
  have n0 : (0 : Int) ≤ (N : Int) := by omega
  have n2 : ((0 : Int) < (N : Int)) := by omega
  have hmk := fun W : World => run_make_row' (P := Try.prog) 22 5 (.int .u8 0) 1 Try.underlying22 infoU8 rfl .i64 .i64 N (by omega) (by omega) W
  clear hN
  go_enter Try.func11, Try.ntmps11
  go_wp2_with fail
  have R1 := Lib.hid (diskMakes.made_rd (w.alloc (.cells #[.slice none 0 0, .slice none 0 0, .int .i64 0, .slice none 0 0] 34)) N)
  have P1 := Lib.hid ((Blk.new w 34 #[.slice none 0 0, .slice none 0 0, .int .i64 0, .slice none 0 0]).alloc (.cells (madeCells #[.int .u8 0] N) 5))
  have B1 := Lib.hid (((Below.refl w.heap.size w).alloc (Nat.le_refl _) (.cells #[.slice none 0 0, .slice none 0 0, .int .i64 0, .slice none 0 0] 34)).alloc (by simp) (.cells (madeCells #[.int .u8 0] N) 5))
  generalize (w.alloc (.cells #[.slice none 0 0, .slice none 0 0, .int .i64 0, .slice none 0 0] 34)).alloc (.cells (madeCells #[.int .u8 0] N) 5) = W at R1 P1 B1 ⊢
  go_loop [8] (fun i => i = .int .i64 0) (fun _ => 0)
  case atStart => rfl
  case round =>
    subst hrel
    go_wp2_with fail
    simp only [World.size_alloc] at R1
    have OF := of_ok W (w.heap.size + 1) 0 N s (List.replicate N 0) (by rw [List.length_replicate]; exact NE.out) s1 (by omega) (by rw [List.length_replicate]; exact Nat.le_refl _) R1.out
    rw [List.length_replicate] at OF
    refine OF.mono ?_
    rintro e w3 ⟨p, pl, rfl, c3, b3⟩
    have C3 := Lib.hid c3
    have P3 := P1.out.below b3 P1.out.lt
    have HP3 := Lib.hid P3
    have B3 := Lib.hid (B1.out.trans (b3.mono B1.out.size))
    have q0 := (P3.cell 0).trans (show _ = some (.slice none 0 0) from rfl)
    have q1 := (P3.cell 1).trans (show _ = some (.slice none 0 0) from rfl)
    have q2 := (P3.cell 2).trans (show _ = some (.int .i64 0) from rfl)
    have q3 := (P3.cell 3).trans (show _ = some (.slice none 0 0) from rfl)
    have g0 := P3.frozen 0
    have g1 := P3.frozen 1
    have g2 := P3.frozen 2
    have g3 := P3.frozen 3
    clear c3 b3 P3 OF
    go_wp2_with (go_at_call 15; refine (num_any _ _).mono ?_; rintro e w' ⟨rfl, rfl⟩)
    refine bodyPost_ret (results_begun rfl _ _ w.heap.size #[.slice (some ⟨w.heap.size + 1, 0, none⟩) N N, .slice none 0 0, .int .i64 0, .slice none 0 0] rfl rfl (four_set HP3.out (.slice (some ⟨w.heap.size + 1, 0, none⟩) N N) (.slice none 0 0) (.int .i64 0) (.slice none 0 0))) rfl
      ⟨p, pl, some ⟨w.heap.size + 1, 0, none⟩, N, by rw [← NE.out]; rfl, ?_, four_below B3.out (Nat.le_refl _) _ _ _ _⟩
    rw [← NE.out]
    refine (C3.out.base B1.out.size).keep (fun k hk => ?_)
    have h1 := (C3.out.lt k hk).2
    have h2 := P1.out.lt
    rw [Below.heap_setCell _ _ _ k (by simp; omega), Below.heap_setCell _ _ _ k (by simp; omega), Below.heap_setCell _ _ _ k (by simp; omega), Below.heap_setCell _ _ _ k (by simp; omega)]
end Go.Proofs.Ytokbghpddgfnpaa
