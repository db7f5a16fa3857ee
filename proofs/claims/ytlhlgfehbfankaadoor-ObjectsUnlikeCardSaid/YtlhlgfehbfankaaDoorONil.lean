/- objects: Unlike, Same, Copy where there is nothing to compare; a range over none. -/
import Derived.Test.YtlhlgfehbfankaaDoorOAll
import Derived.Test.YtlhlgfehbfankaaDoorKCou
namespace Go.Proofs.YtlhlgfehbfankaaDoor
open Go.RowKit Go.Shelf
attribute [local go_sem] Oper.semAt_some
abbrev SizeIs (w : World) (P : Value) (n : Int) : Prop := Calls Tryd.prog 30 #[P] w fun e w' => e = .returned (.int .i64 n) ∧ w = w'
abbrev ThereIs (w : World) (P : Value) (b : Bool) : Prop := Calls Tryd.prog 39 #[P] w fun e w' => e = .returned (.bool b) ∧ w = w'
def IsPtr (P : Value) : Prop := P = .pointer none ∨ ∃ q, P = pv q
theorem copy_nil (w : World) : Calls Tryd.prog 28 #[.pointer none] w fun e w' => e = .returned (.pointer none) ∧ w = w' := by
  refine (callsIn_wide (n := 4)).1 (callsIn_of_wp_marks Tryd.func28 rfl trivial ?_ rfl)
  simp only [Tryd.ntmps28, List.size_toArray, List.length_cons, List.length_nil, Nat.reduceAdd, Nat.reduceSub, Array.replicate_succ, Array.replicate_zero, List.push_toArray, List.append_toArray, List.nil_append, List.cons_append]
  have hFw : ∀ f, Fence.wide.fn f := fun _ => trivial
  gi_wp2_with (gi_at_call 39; refine ((callsIn_wide (n := 3)).2 (there_nil _)).mono ?_; rintro e w1 ⟨rfl, rfl⟩)
  exact ⟨_, results_tmp rfl _ _ _, rfl, rfl⟩
section
variable {w : World} {P Q : Value}
theorem unlike_ne (hP' : IsPtr P) (hQ' : IsPtr Q) (hPQ : P ≠ Q) {m n : Int} (hP : SizeIs w P m) (hQ : SizeIs w Q n) (hne : m ≠ n) : Calls Tryd.prog 25 #[P, Q] w fun e w' => e = .returned (.slice none 0 0) ∧ w = w' := by
  have HP := Lib.hid hP
  have HQ := Lib.hid hQ
  have dd : (m != n) = true := by simpa using hne
  clear hP hQ hne
  rcases hP' with rfl | ⟨p, rfl⟩
  all_goals
    rcases hQ' with rfl | ⟨q, rfl⟩
    all_goals
      first
        | exact absurd rfl hPQ
        | (go_enter Tryd.func25, Tryd.ntmps25
           go_wp2_with (first
             | (go_at_call 30; (first | (with_reducible refine HP.out.mono ?_) | (with_reducible refine HQ.out.mono ?_)); rintro e w1 ⟨rfl, rfl⟩))
           go_ret
           exact ⟨rfl, rfl⟩)
theorem unlike_nt (hP' : IsPtr P) (hQ' : IsPtr Q) (hPQ : P ≠ Q) (hP : SizeIs w P 0) (hQ : SizeIs w Q 0) (hh : ThereIs w P false) : Calls Tryd.prog 25 #[P, Q] w fun e w' => e = .returned (.slice none 0 0) ∧ w = w' := by
  have HP := Lib.hid hP
  have HQ := Lib.hid hQ
  have HH := Lib.hid hh
  clear hP hQ hh
  rcases hP' with rfl | ⟨p, rfl⟩
  all_goals
    rcases hQ' with rfl | ⟨q, rfl⟩
    all_goals
      first
        | exact absurd rfl hPQ
        | (go_enter Tryd.func25, Tryd.ntmps25
           go_wp2_with (first
             | (go_at_call 30; (first | (with_reducible refine HP.out.mono ?_) | (with_reducible refine HQ.out.mono ?_)); rintro e w1 ⟨rfl, rfl⟩)
             | (go_at_call 39; refine HH.out.mono ?_; rintro e w1 ⟨rfl, rfl⟩))
           go_ret
           exact ⟨rfl, rfl⟩)
theorem same_ne (hP' : IsPtr P) (hQ' : IsPtr Q) (hPQ : P ≠ Q) {m n : Int} (hP : SizeIs w P m) (hQ : SizeIs w Q n) (hne : m ≠ n) : Calls Tryd.prog 26 #[P, Q] w fun e w' => e = .returned (.bool false) ∧ w = w' := by
  have HP := Lib.hid hP
  have HQ := Lib.hid hQ
  have dd : (m == n) = false := by simpa using hne
  clear hP hQ hne
  rcases hP' with rfl | ⟨p, rfl⟩
  all_goals
    rcases hQ' with rfl | ⟨q, rfl⟩
    all_goals
      first
        | exact absurd rfl hPQ
        | (go_enter Tryd.func26, Tryd.ntmps26
           go_wp2_with (first
             | (go_at_call 30; (first | (with_reducible refine HP.out.mono ?_) | (with_reducible refine HQ.out.mono ?_)); rintro e w1 ⟨rfl, rfl⟩))
           go_ret
           exact ⟨rfl, rfl⟩)
theorem same_nt (hP' : IsPtr P) (hQ' : IsPtr Q) (hPQ : P ≠ Q) (hP : SizeIs w P 0) (hQ : SizeIs w Q 0) (hh : ThereIs w P false) : Calls Tryd.prog 26 #[P, Q] w fun e w' => e = .returned (.bool true) ∧ w = w' := by
  have HU := Lib.hid (unlike_nt hP' hQ' hPQ hP hQ hh)
  have HP := Lib.hid hP
  have HQ := Lib.hid hQ
  clear hP hQ hh
  rcases hP' with rfl | ⟨p, rfl⟩
  all_goals
    rcases hQ' with rfl | ⟨q, rfl⟩
    all_goals
      first
        | exact absurd rfl hPQ
        | (go_enter Tryd.func26, Tryd.ntmps26
           go_wp2_with (first
             | (go_at_call 30; (first | (with_reducible refine HP.out.mono ?_) | (with_reducible refine HQ.out.mono ?_)); rintro e w1 ⟨rfl, rfl⟩)
             | (go_at_call 25; refine HU.out.mono ?_; rintro e w1 ⟨rfl, rfl⟩))
           go_ret
           exact ⟨rfl, rfl⟩)
end
set_option maxRecDepth 100000 in
theorem all1_nil (n : Nat) (hn : 1 ≤ n) (bS : Nat) (w0 : World) (hbox : w0.cell? ⟨bS, 0, none⟩ = some (.pointer none)) :
    SeqStopsK Fence.wide n Tryd.prog 43 #[.pointer (some ⟨bS, 0, none⟩)] (fun _ : Unit => #[.int .i64 0, oz.val]) (fun _ _ => True) (fun xs => xs = []) (fun _ => False) 0 w0 := by
  intro l J Jx W hb hJ hJx hY h0
  have hFw : ∀ f, Fence.wide.fn f := fun _ => trivial
  have hbox' := (hb.cell (p := ⟨bS, 0, none⟩) (World.block_lt_of_cell? w0 _ hbox)).trans hbox
  have HJ0 := Lib.hid h0
  clear hbox hb hY hJ hJx h0
  refine callsIn_of_wp Tryd.func43 rfl trivial ?_ rfl
  simp only [Tryd.ntmps43, List.size_toArray, List.length_cons, List.length_nil, Nat.reduceAdd, Nat.reduceSub, Array.replicate_succ, Array.replicate_zero, List.push_toArray, List.append_toArray, List.nil_append, List.cons_append]
  gi_wp2_with (gi_at_call 39; refine ((callsIn_wide (n := n - 1)).2 (there_nil _)).mono ?_; rintro e w' ⟨rfl, rfl⟩)
  refine bodyPost_ret (results_none rfl _ _ _) rfl ?_
  exact ⟨⟨_, rfl⟩, .inl ⟨_, rfl, HJ0.out⟩⟩
end Go.Proofs.YtlhlgfehbfankaaDoor
