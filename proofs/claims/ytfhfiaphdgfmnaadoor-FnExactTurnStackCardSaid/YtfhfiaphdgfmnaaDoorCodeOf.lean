import Derived.Test.YtfhfiaphdgfmnaaDoorErr
import Derived.Test.YtfhfiaphdgfmnaaDoorImplV
import Derived.Test.YtfhfiaphdgfmnaaDoorOkEq
namespace Go.Proofs.YtfhfiaphdgfmnaaDoor
open Go.RowKit
set_option maxRecDepth 100000
set_option linter.unusedVariables false
set_option linter.unusedSimpArgs false
theorem codeOf_nil (w : World) : Calls Tryd.prog 45 #[.nilIface] w fun e w' => e = .returned (.int .i64 0) ∧ Below w.heap.size w w' := by
  go_enter Tryd.func45, Tryd.ntmps45
  go_wp2
  go_ret
  exact ⟨rfl, Below.refl _ _⟩
set_option maxHeartbeats 1000000 in
theorem codeOf_1 (e : ErrE) (w : World) (hE : Errs e w) : Calls Tryd.prog 45 #[errP e 1] w fun o w' => o = .returned (.int .i64 1) ∧ Below w.heap.size w w' := by
  have Y := Go.Lib.hid (is_yes e 1)
  have hB := Go.Lib.hid (Below.refl w.heap.size w)
  have E := Go.Lib.hid (hE)
  go_enter Tryd.func45, Tryd.ntmps45
  go_wp2_with (first
  | (go_at_call 83; ((with_reducible refine (Y.out _).mono ?_); rintro o w1 ⟨rfl, hb⟩; replace hB := Go.Lib.hid (below_next hB.out hb); replace E := Go.Lib.hid (E.out.next hb); clear hb))
  | (refine wpList_ld1 73 _ rfl (by first | exact want_n rfl | exact want_g _ _ _ rfl rfl rfl) 0 0 rfl 1 (fun _ => errP e 1) _ rw_err E.out.v1 (by omega) ?_)
  | (refine wpList_ld1 73 _ rfl (by first | exact want_n rfl | exact want_g _ _ _ rfl rfl rfl) 1 0 rfl 1 (fun _ => errP e 2) _ rw_err E.out.v2 (by omega) ?_)
  | (refine wpList_ld1 73 _ rfl (by first | exact want_n rfl | exact want_g _ _ _ rfl rfl rfl) 3 0 rfl 1 (fun _ => errP e 3) _ rw_err E.out.v3 (by omega) ?_)
  | (refine wpList_ld1 73 _ rfl (by first | exact want_n rfl | exact want_g _ _ _ rfl rfl rfl) 2 0 rfl 1 (fun _ => errP e 4) _ rw_err E.out.v4 (by omega) ?_)
  | (refine wpList_ld1 73 _ rfl (by first | exact want_n rfl | exact want_g _ _ _ rfl rfl rfl) 4 0 rfl 1 (fun _ => errP e 5) _ rw_err E.out.v5 (by omega) ?_)
  | (refine wpList_ld1 73 _ rfl (by first | exact want_n rfl | exact want_g _ _ _ rfl rfl rfl) 5 0 rfl 1 (fun _ => errP e 7) _ rw_err E.out.v7 (by omega) ?_))
  go_ret
  exact ⟨rfl, hB.out⟩
set_option maxHeartbeats 1000000 in
theorem codeOf_2 (e : ErrE) (w : World) (hE : Errs e w) : Calls Tryd.prog 45 #[errP e 2] w fun o w' => o = .returned (.int .i64 2) ∧ Below w.heap.size w w' := by
  have Y := Go.Lib.hid (is_yes e 2)
  have N1 := Go.Lib.hid (is_no e 2 1 (by decide) (by decide) (by decide))
  have hB := Go.Lib.hid (Below.refl w.heap.size w)
  have E := Go.Lib.hid (hE)
  go_enter Tryd.func45, Tryd.ntmps45
  go_wp2_with (first
  | (go_at_call 83; first | ((with_reducible refine (N1.out _ E.out).mono ?_); rintro o w1 ⟨rfl, hb⟩; replace hB := Go.Lib.hid (below_next hB.out hb); replace E := Go.Lib.hid (E.out.next hb); clear hb) | ((with_reducible refine (Y.out _).mono ?_); rintro o w1 ⟨rfl, hb⟩; replace hB := Go.Lib.hid (below_next hB.out hb); replace E := Go.Lib.hid (E.out.next hb); clear hb))
  | (refine wpList_ld1 73 _ rfl (by first | exact want_n rfl | exact want_g _ _ _ rfl rfl rfl) 0 0 rfl 1 (fun _ => errP e 1) _ rw_err E.out.v1 (by omega) ?_)
  | (refine wpList_ld1 73 _ rfl (by first | exact want_n rfl | exact want_g _ _ _ rfl rfl rfl) 1 0 rfl 1 (fun _ => errP e 2) _ rw_err E.out.v2 (by omega) ?_)
  | (refine wpList_ld1 73 _ rfl (by first | exact want_n rfl | exact want_g _ _ _ rfl rfl rfl) 3 0 rfl 1 (fun _ => errP e 3) _ rw_err E.out.v3 (by omega) ?_)
  | (refine wpList_ld1 73 _ rfl (by first | exact want_n rfl | exact want_g _ _ _ rfl rfl rfl) 2 0 rfl 1 (fun _ => errP e 4) _ rw_err E.out.v4 (by omega) ?_)
  | (refine wpList_ld1 73 _ rfl (by first | exact want_n rfl | exact want_g _ _ _ rfl rfl rfl) 4 0 rfl 1 (fun _ => errP e 5) _ rw_err E.out.v5 (by omega) ?_)
  | (refine wpList_ld1 73 _ rfl (by first | exact want_n rfl | exact want_g _ _ _ rfl rfl rfl) 5 0 rfl 1 (fun _ => errP e 7) _ rw_err E.out.v7 (by omega) ?_))
  go_ret
  exact ⟨rfl, hB.out⟩
set_option maxHeartbeats 1000000 in
theorem codeOf_3 (e : ErrE) (w : World) (hE : Errs e w) : Calls Tryd.prog 45 #[errP e 3] w fun o w' => o = .returned (.int .i64 3) ∧ Below w.heap.size w w' := by
  have Y := Go.Lib.hid (is_yes e 3)
  have N1 := Go.Lib.hid (is_no e 3 1 (by decide) (by decide) (by decide))
  have N2 := Go.Lib.hid (is_no e 3 2 (by decide) (by decide) (by decide))
  have hB := Go.Lib.hid (Below.refl w.heap.size w)
  have E := Go.Lib.hid (hE)
  go_enter Tryd.func45, Tryd.ntmps45
  go_wp2_with (first
  | (go_at_call 83; first | ((with_reducible refine (N1.out _ E.out).mono ?_); rintro o w1 ⟨rfl, hb⟩; replace hB := Go.Lib.hid (below_next hB.out hb); replace E := Go.Lib.hid (E.out.next hb); clear hb) | ((with_reducible refine (N2.out _ E.out).mono ?_); rintro o w1 ⟨rfl, hb⟩; replace hB := Go.Lib.hid (below_next hB.out hb); replace E := Go.Lib.hid (E.out.next hb); clear hb) | ((with_reducible refine (Y.out _).mono ?_); rintro o w1 ⟨rfl, hb⟩; replace hB := Go.Lib.hid (below_next hB.out hb); replace E := Go.Lib.hid (E.out.next hb); clear hb))
  | (refine wpList_ld1 73 _ rfl (by first | exact want_n rfl | exact want_g _ _ _ rfl rfl rfl) 0 0 rfl 1 (fun _ => errP e 1) _ rw_err E.out.v1 (by omega) ?_)
  | (refine wpList_ld1 73 _ rfl (by first | exact want_n rfl | exact want_g _ _ _ rfl rfl rfl) 1 0 rfl 1 (fun _ => errP e 2) _ rw_err E.out.v2 (by omega) ?_)
  | (refine wpList_ld1 73 _ rfl (by first | exact want_n rfl | exact want_g _ _ _ rfl rfl rfl) 3 0 rfl 1 (fun _ => errP e 3) _ rw_err E.out.v3 (by omega) ?_)
  | (refine wpList_ld1 73 _ rfl (by first | exact want_n rfl | exact want_g _ _ _ rfl rfl rfl) 2 0 rfl 1 (fun _ => errP e 4) _ rw_err E.out.v4 (by omega) ?_)
  | (refine wpList_ld1 73 _ rfl (by first | exact want_n rfl | exact want_g _ _ _ rfl rfl rfl) 4 0 rfl 1 (fun _ => errP e 5) _ rw_err E.out.v5 (by omega) ?_)
  | (refine wpList_ld1 73 _ rfl (by first | exact want_n rfl | exact want_g _ _ _ rfl rfl rfl) 5 0 rfl 1 (fun _ => errP e 7) _ rw_err E.out.v7 (by omega) ?_))
  go_ret
  exact ⟨rfl, hB.out⟩
set_option maxHeartbeats 1000000 in
theorem codeOf_4 (e : ErrE) (w : World) (hE : Errs e w) : Calls Tryd.prog 45 #[errP e 4] w fun o w' => o = .returned (.int .i64 4) ∧ Below w.heap.size w w' := by
  have Y := Go.Lib.hid (is_yes e 4)
  have N1 := Go.Lib.hid (is_no e 4 1 (by decide) (by decide) (by decide))
  have N2 := Go.Lib.hid (is_no e 4 2 (by decide) (by decide) (by decide))
  have N3 := Go.Lib.hid (is_no e 4 3 (by decide) (by decide) (by decide))
  have hB := Go.Lib.hid (Below.refl w.heap.size w)
  have E := Go.Lib.hid (hE)
  go_enter Tryd.func45, Tryd.ntmps45
  go_wp2_with (first
  | (go_at_call 83; first | ((with_reducible refine (N1.out _ E.out).mono ?_); rintro o w1 ⟨rfl, hb⟩; replace hB := Go.Lib.hid (below_next hB.out hb); replace E := Go.Lib.hid (E.out.next hb); clear hb) | ((with_reducible refine (N2.out _ E.out).mono ?_); rintro o w1 ⟨rfl, hb⟩; replace hB := Go.Lib.hid (below_next hB.out hb); replace E := Go.Lib.hid (E.out.next hb); clear hb) | ((with_reducible refine (N3.out _ E.out).mono ?_); rintro o w1 ⟨rfl, hb⟩; replace hB := Go.Lib.hid (below_next hB.out hb); replace E := Go.Lib.hid (E.out.next hb); clear hb) | ((with_reducible refine (Y.out _).mono ?_); rintro o w1 ⟨rfl, hb⟩; replace hB := Go.Lib.hid (below_next hB.out hb); replace E := Go.Lib.hid (E.out.next hb); clear hb))
  | (refine wpList_ld1 73 _ rfl (by first | exact want_n rfl | exact want_g _ _ _ rfl rfl rfl) 0 0 rfl 1 (fun _ => errP e 1) _ rw_err E.out.v1 (by omega) ?_)
  | (refine wpList_ld1 73 _ rfl (by first | exact want_n rfl | exact want_g _ _ _ rfl rfl rfl) 1 0 rfl 1 (fun _ => errP e 2) _ rw_err E.out.v2 (by omega) ?_)
  | (refine wpList_ld1 73 _ rfl (by first | exact want_n rfl | exact want_g _ _ _ rfl rfl rfl) 3 0 rfl 1 (fun _ => errP e 3) _ rw_err E.out.v3 (by omega) ?_)
  | (refine wpList_ld1 73 _ rfl (by first | exact want_n rfl | exact want_g _ _ _ rfl rfl rfl) 2 0 rfl 1 (fun _ => errP e 4) _ rw_err E.out.v4 (by omega) ?_)
  | (refine wpList_ld1 73 _ rfl (by first | exact want_n rfl | exact want_g _ _ _ rfl rfl rfl) 4 0 rfl 1 (fun _ => errP e 5) _ rw_err E.out.v5 (by omega) ?_)
  | (refine wpList_ld1 73 _ rfl (by first | exact want_n rfl | exact want_g _ _ _ rfl rfl rfl) 5 0 rfl 1 (fun _ => errP e 7) _ rw_err E.out.v7 (by omega) ?_))
  go_ret
  exact ⟨rfl, hB.out⟩
set_option maxHeartbeats 1000000 in
theorem codeOf_5 (e : ErrE) (w : World) (hE : Errs e w) : Calls Tryd.prog 45 #[errP e 5] w fun o w' => o = .returned (.int .i64 5) ∧ Below w.heap.size w w' := by
  have Y := Go.Lib.hid (is_yes e 5)
  have N1 := Go.Lib.hid (is_no e 5 1 (by decide) (by decide) (by decide))
  have N2 := Go.Lib.hid (is_no e 5 2 (by decide) (by decide) (by decide))
  have N3 := Go.Lib.hid (is_no e 5 3 (by decide) (by decide) (by decide))
  have N4 := Go.Lib.hid (is_no e 5 4 (by decide) (by decide) (by decide))
  have hB := Go.Lib.hid (Below.refl w.heap.size w)
  have E := Go.Lib.hid (hE)
  go_enter Tryd.func45, Tryd.ntmps45
  go_wp2_with (first
  | (go_at_call 83; first | ((with_reducible refine (N1.out _ E.out).mono ?_); rintro o w1 ⟨rfl, hb⟩; replace hB := Go.Lib.hid (below_next hB.out hb); replace E := Go.Lib.hid (E.out.next hb); clear hb) | ((with_reducible refine (N2.out _ E.out).mono ?_); rintro o w1 ⟨rfl, hb⟩; replace hB := Go.Lib.hid (below_next hB.out hb); replace E := Go.Lib.hid (E.out.next hb); clear hb) | ((with_reducible refine (N3.out _ E.out).mono ?_); rintro o w1 ⟨rfl, hb⟩; replace hB := Go.Lib.hid (below_next hB.out hb); replace E := Go.Lib.hid (E.out.next hb); clear hb) | ((with_reducible refine (N4.out _ E.out).mono ?_); rintro o w1 ⟨rfl, hb⟩; replace hB := Go.Lib.hid (below_next hB.out hb); replace E := Go.Lib.hid (E.out.next hb); clear hb) | ((with_reducible refine (Y.out _).mono ?_); rintro o w1 ⟨rfl, hb⟩; replace hB := Go.Lib.hid (below_next hB.out hb); replace E := Go.Lib.hid (E.out.next hb); clear hb))
  | (refine wpList_ld1 73 _ rfl (by first | exact want_n rfl | exact want_g _ _ _ rfl rfl rfl) 0 0 rfl 1 (fun _ => errP e 1) _ rw_err E.out.v1 (by omega) ?_)
  | (refine wpList_ld1 73 _ rfl (by first | exact want_n rfl | exact want_g _ _ _ rfl rfl rfl) 1 0 rfl 1 (fun _ => errP e 2) _ rw_err E.out.v2 (by omega) ?_)
  | (refine wpList_ld1 73 _ rfl (by first | exact want_n rfl | exact want_g _ _ _ rfl rfl rfl) 3 0 rfl 1 (fun _ => errP e 3) _ rw_err E.out.v3 (by omega) ?_)
  | (refine wpList_ld1 73 _ rfl (by first | exact want_n rfl | exact want_g _ _ _ rfl rfl rfl) 2 0 rfl 1 (fun _ => errP e 4) _ rw_err E.out.v4 (by omega) ?_)
  | (refine wpList_ld1 73 _ rfl (by first | exact want_n rfl | exact want_g _ _ _ rfl rfl rfl) 4 0 rfl 1 (fun _ => errP e 5) _ rw_err E.out.v5 (by omega) ?_)
  | (refine wpList_ld1 73 _ rfl (by first | exact want_n rfl | exact want_g _ _ _ rfl rfl rfl) 5 0 rfl 1 (fun _ => errP e 7) _ rw_err E.out.v7 (by omega) ?_))
  go_ret
  exact ⟨rfl, hB.out⟩
set_option maxHeartbeats 1000000 in
theorem codeOf_7 (e : ErrE) (w : World) (hE : Errs e w) : Calls Tryd.prog 45 #[errP e 7] w fun o w' => o = .returned (.int .i64 7) ∧ Below w.heap.size w w' := by
  have Y := Go.Lib.hid (is_yes e 7)
  have N1 := Go.Lib.hid (is_no e 7 1 (by decide) (by decide) (by decide))
  have N2 := Go.Lib.hid (is_no e 7 2 (by decide) (by decide) (by decide))
  have N3 := Go.Lib.hid (is_no e 7 3 (by decide) (by decide) (by decide))
  have N4 := Go.Lib.hid (is_no e 7 4 (by decide) (by decide) (by decide))
  have N5 := Go.Lib.hid (is_no e 7 5 (by decide) (by decide) (by decide))
  have hB := Go.Lib.hid (Below.refl w.heap.size w)
  have E := Go.Lib.hid (hE)
  go_enter Tryd.func45, Tryd.ntmps45
  go_wp2_with (first
  | (go_at_call 83; first | ((with_reducible refine (N1.out _ E.out).mono ?_); rintro o w1 ⟨rfl, hb⟩; replace hB := Go.Lib.hid (below_next hB.out hb); replace E := Go.Lib.hid (E.out.next hb); clear hb) | ((with_reducible refine (N2.out _ E.out).mono ?_); rintro o w1 ⟨rfl, hb⟩; replace hB := Go.Lib.hid (below_next hB.out hb); replace E := Go.Lib.hid (E.out.next hb); clear hb) | ((with_reducible refine (N3.out _ E.out).mono ?_); rintro o w1 ⟨rfl, hb⟩; replace hB := Go.Lib.hid (below_next hB.out hb); replace E := Go.Lib.hid (E.out.next hb); clear hb) | ((with_reducible refine (N4.out _ E.out).mono ?_); rintro o w1 ⟨rfl, hb⟩; replace hB := Go.Lib.hid (below_next hB.out hb); replace E := Go.Lib.hid (E.out.next hb); clear hb) | ((with_reducible refine (N5.out _ E.out).mono ?_); rintro o w1 ⟨rfl, hb⟩; replace hB := Go.Lib.hid (below_next hB.out hb); replace E := Go.Lib.hid (E.out.next hb); clear hb) | ((with_reducible refine (Y.out _).mono ?_); rintro o w1 ⟨rfl, hb⟩; replace hB := Go.Lib.hid (below_next hB.out hb); replace E := Go.Lib.hid (E.out.next hb); clear hb))
  | (refine wpList_ld1 73 _ rfl (by first | exact want_n rfl | exact want_g _ _ _ rfl rfl rfl) 0 0 rfl 1 (fun _ => errP e 1) _ rw_err E.out.v1 (by omega) ?_)
  | (refine wpList_ld1 73 _ rfl (by first | exact want_n rfl | exact want_g _ _ _ rfl rfl rfl) 1 0 rfl 1 (fun _ => errP e 2) _ rw_err E.out.v2 (by omega) ?_)
  | (refine wpList_ld1 73 _ rfl (by first | exact want_n rfl | exact want_g _ _ _ rfl rfl rfl) 3 0 rfl 1 (fun _ => errP e 3) _ rw_err E.out.v3 (by omega) ?_)
  | (refine wpList_ld1 73 _ rfl (by first | exact want_n rfl | exact want_g _ _ _ rfl rfl rfl) 2 0 rfl 1 (fun _ => errP e 4) _ rw_err E.out.v4 (by omega) ?_)
  | (refine wpList_ld1 73 _ rfl (by first | exact want_n rfl | exact want_g _ _ _ rfl rfl rfl) 4 0 rfl 1 (fun _ => errP e 5) _ rw_err E.out.v5 (by omega) ?_)
  | (refine wpList_ld1 73 _ rfl (by first | exact want_n rfl | exact want_g _ _ _ rfl rfl rfl) 5 0 rfl 1 (fun _ => errP e 7) _ rw_err E.out.v7 (by omega) ?_))
  go_ret
  exact ⟨rfl, hB.out⟩
set_option maxHeartbeats 1000000 in
theorem codeOf_6 (e : ErrE) (w : World) (hE : Err6 e w) : Calls Tryd.prog 45 #[errP e 6] w fun o w' => o = .returned (.int .i64 6) ∧ Below w.heap.size w w' := by
  have N1 := Go.Lib.hid (is_no6 e 1 (by decide))
  have N2 := Go.Lib.hid (is_no6 e 2 (by decide))
  have N3 := Go.Lib.hid (is_no6 e 3 (by decide))
  have N4 := Go.Lib.hid (is_no6 e 4 (by decide))
  have N5 := Go.Lib.hid (is_no6 e 5 (by decide))
  have N7 := Go.Lib.hid (is_no6 e 7 (by decide))
  have hB := Go.Lib.hid (Below.refl w.heap.size w)
  have E := Go.Lib.hid (hE)
  go_enter Tryd.func45, Tryd.ntmps45
  go_wp2_with (first
  | (go_at_call 83; first | ((with_reducible refine (N1.out _ E.out).mono ?_); rintro o w1 ⟨rfl, hb⟩; replace hB := Go.Lib.hid (below_next hB.out hb); replace E := Go.Lib.hid (E.out.next hb); clear hb) | ((with_reducible refine (N2.out _ E.out).mono ?_); rintro o w1 ⟨rfl, hb⟩; replace hB := Go.Lib.hid (below_next hB.out hb); replace E := Go.Lib.hid (E.out.next hb); clear hb) | ((with_reducible refine (N3.out _ E.out).mono ?_); rintro o w1 ⟨rfl, hb⟩; replace hB := Go.Lib.hid (below_next hB.out hb); replace E := Go.Lib.hid (E.out.next hb); clear hb) | ((with_reducible refine (N4.out _ E.out).mono ?_); rintro o w1 ⟨rfl, hb⟩; replace hB := Go.Lib.hid (below_next hB.out hb); replace E := Go.Lib.hid (E.out.next hb); clear hb) | ((with_reducible refine (N5.out _ E.out).mono ?_); rintro o w1 ⟨rfl, hb⟩; replace hB := Go.Lib.hid (below_next hB.out hb); replace E := Go.Lib.hid (E.out.next hb); clear hb) | ((with_reducible refine (N7.out _ E.out).mono ?_); rintro o w1 ⟨rfl, hb⟩; replace hB := Go.Lib.hid (below_next hB.out hb); replace E := Go.Lib.hid (E.out.next hb); clear hb))
  | (refine wpList_ld1 73 _ rfl (by first | exact want_n rfl | exact want_g _ _ _ rfl rfl rfl) 0 0 rfl 1 (fun _ => errP e 1) _ rw_err E.out.base.v1 (by omega) ?_)
  | (refine wpList_ld1 73 _ rfl (by first | exact want_n rfl | exact want_g _ _ _ rfl rfl rfl) 1 0 rfl 1 (fun _ => errP e 2) _ rw_err E.out.base.v2 (by omega) ?_)
  | (refine wpList_ld1 73 _ rfl (by first | exact want_n rfl | exact want_g _ _ _ rfl rfl rfl) 3 0 rfl 1 (fun _ => errP e 3) _ rw_err E.out.base.v3 (by omega) ?_)
  | (refine wpList_ld1 73 _ rfl (by first | exact want_n rfl | exact want_g _ _ _ rfl rfl rfl) 2 0 rfl 1 (fun _ => errP e 4) _ rw_err E.out.base.v4 (by omega) ?_)
  | (refine wpList_ld1 73 _ rfl (by first | exact want_n rfl | exact want_g _ _ _ rfl rfl rfl) 4 0 rfl 1 (fun _ => errP e 5) _ rw_err E.out.base.v5 (by omega) ?_)
  | (refine wpList_ld1 73 _ rfl (by first | exact want_n rfl | exact want_g _ _ _ rfl rfl rfl) 5 0 rfl 1 (fun _ => errP e 7) _ rw_err E.out.base.v7 (by omega) ?_))
  go_ret
  exact ⟨rfl, hB.out⟩
end Go.Proofs.YtfhfiaphdgfmnaaDoor
