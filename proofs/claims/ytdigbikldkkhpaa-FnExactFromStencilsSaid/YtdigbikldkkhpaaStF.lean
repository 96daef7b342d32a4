import Derived.Deep.RegionHeld3
import Derived.Test.YtdigbikldkkhpaaStE
import Derived.Test.YtdigbikldkkhpaaG1
namespace Go.Proofs.Ytdigbikldkkhpaa
open Go.RowKit
set_option maxRecDepth 100000
set_option linter.unusedVariables false
set_option linter.unusedSimpArgs false
set_option maxHeartbeats 2000000 in
theorem toByteA8A3_any (a : Nat → Int) (w : World) :
    Calls Try.prog 5 #[.agg (irow .u8 24 a)] w fun e w' => e = .returned (.agg (irow .u8 24 a)) ∧ Below w.heap.size w w' := by
  have zz : ∀ w, (zeroValue 23).run Try.prog w = .ok (.agg (irow .u8 24 fun _ => 0)) w := fun _ => by kernel_rfl
  go_enter Try.func5, Try.ntmps5
  go_wp2
  go_loopw [4] (fun i wr => ∃ k : Nat, k ≤ 3 ∧ i = .int .i64 k ∧ Copying .u8 24 23 a (k * 8) w wr) (fun i _ => 3 - (intOf i).toNat)
  case atStart => exact ⟨0, by omega, rfl, Copying.start _ _ _ _ _⟩
  case round =>
    clear zz
    obtain ⟨k, hk, rfl, hI⟩ := hrel
    by_cases hlt : k < 3
    · have hS := hI.2.1; have HI := Go.Lib.hid hI
      clear hI hk
      go_wp2_with (first
        | (refine wpList_loadmid rfl 22 (.tmp 11) rfl _ (k * 8) rfl 24 8 (fun i => .int .u8 (a i)) 23 _ Try.underlying22 rfl size_x8 HI.out.2.2.1 (by omega) ?_)
        | (go_at_call 10; refine (toByteA8_any _ _).mono ?_; rintro e w1 ⟨rfl, hb1⟩; have HB1 := Go.Lib.hid hb1; clear hb1)
        | (refine wpList_storemid rfl 22 (.tmp 14) (.tmp 13) rfl _ (k * 8) rfl 24 8 (fun i => .int .u8 (upto a (k * 8) i)) (fun i => .int .u8 (a (k * 8 + i))) rfl 23 size_x8 (row_below HB1.out (by omega) HI.out.2.2.2.2) (by omega) (fun _ _ => rfl) ?_))
      go_roundw
      case rel =>
        refine ⟨k + 1, by omega, by go_num, ?_⟩
        rw [show (k + 1) * 8 = k * 8 + 8 by omega]
        exact HI.out.step HB1.out
      case measure => simp [intOf]; omega
    · obtain rfl : k = 3 := by omega
      obtain ⟨hB, hS, h0, h1, h2⟩ := hI
      rw [show 3 * 8 = 24 from rfl, upto_full] at h2
      have HB := Go.Lib.hid hB; have H1 := Go.Lib.hid h1; have H2 := Go.Lib.hid h2
      clear hB h0 h1 h2 hk
      go_wp2_with (first
        | (refine wpList_loadall rfl 23 (.tmp 3) rfl _ rfl 24 (fun i => .int .u8 (a i)) 23 _ Try.underlying23 rfl size_x24 H2.out ?_)
        | (refine wpList_storeall rfl 23 (.tmp 2) (.tmp 15) rfl _ rfl 24 (fun _ => .int .u8 0) (fun i => .int .u8 (a i)) rfl 23 size_x24 H1.out (fun _ _ => rfl) ?_))
      exact ret_row Try.results5 _ 24 (fun i => .int .u8 (a i)) 23 _ Try.underlying23 rfl size_x24 rfl rfl (row_set H1.out _) ⟨rfl, Below_setRow HB.out (by omega) _⟩
theorem toSt_any (st : Nat → Int) (w : World) : Calls Try.prog 5 #[.agg (vrow 24 (s24 st))] w fun e w' => e = .returned (.agg (vrow 24 (s24 st))) ∧ Below w.heap.size w w' := toByteA8A3_any st w
set_option maxHeartbeats 8000000 in
theorem stL_walk (a : Int) (c : Int) (st : Nat → Int) (p : Pic) (k : Int) (w : World)
    (hS : ∀ w, Calls Try.prog 4 #[.int .i64 a, .int .i64 c, .agg (vrow 24 (s24 st))] w fun e w' => e = .returned (.tuple #[.agg (vrow 66 p.at), .int .i64 k]) ∧ Below w.heap.size w w')
    (hI : ∀ w, Calls Try.prog 6 #[.int .i64 a, .int .i64 c, .agg (vrow 24 (s24 st))] w fun e w' => e = .returned (.tuple #[.agg (vrow 66 p.at), .int .i64 k]) ∧ Below w.heap.size w w') : Calls Try.prog 3 #[.int .i64 a, .int .i64 c, .agg (vrow 24 (s24 st))] w fun o w' => o = .returned (.bool true) ∧ Below w.heap.size w w' := by
  have zz_pic := zero_pic
  have HT2 := Go.Lib.hid (fun w => toSt_any st w)
  have HS := Go.Lib.hid hS; have HI := Go.Lib.hid hI
  clear hS hI
  have hB : Hid (Below w.heap.size w (w.alloc (.cells (vrow 24 (s24 st)) 23))) := ((Below.refl w.heap.size w).alloc (by simp <;> omega) _)
  have P0 : Hid ((w.alloc (.cells (vrow 24 (s24 st)) 23)).heap[w.heap.size]? = some (.cells (vrow 24 (s24 st)) 23)) := heap_at _ _ _ (by simp)
  go_enter Try.func3, Try.ntmps3
  go_wp2_with (first
    | go_skip
    | ((with_reducible refine wlAt 14 rfl ?_); refine wpList_loadall rfl 23 (.tmp 5) rfl _ rfl 24 (s24 st) 23 _ Try.underlying23 rfl size_x24 P0.out ?_)
    | ((with_reducible refine wlAt 22 rfl ?_); refine wpList_loadall rfl 23 (.tmp 5) rfl _ rfl 24 (s24 st) 23 _ Try.underlying23 rfl size_x24 P0.out ?_)
    | (go_at_call 5; ((with_reducible refine (HT2.out _).mono ?_)); rintro o w1 ⟨rfl, hb⟩; replace P0 := Go.Lib.hid (row_next hb P0.out); (try (replace U0 := Go.Lib.hid (row_next hb U0.out))); replace hB := Go.Lib.hid (below_next hB.out hb); clear hb)
    | (go_at_call 4; refine (HS.out _).mono ?_; rintro o w5 ⟨rfl, hb⟩; replace P0 := Go.Lib.hid (row_next hb P0.out); replace hB := Go.Lib.hid (below_next hB.out hb); clear hb)
    | (go_at_call 6; refine (HI.out _).mono ?_; rintro o w7 ⟨rfl, hb⟩; replace P0 := Go.Lib.hid (row_next hb P0.out); (try (replace U0 := Go.Lib.hid (row_next hb U0.out))); replace hB := Go.Lib.hid (below_next hB.out hb); clear hb)
    | ((with_reducible refine wlOp (.store 27 (.tmp 7) (.tmp 17)) rfl ?_); have nbP0 := row_lt P0.out; have gb := hB.out.size; replace P0 := Go.Lib.hid (heap_past w5 (.cells (vrow 66 Pic.zero.at) 27) _ _ (row_lt P0.out) P0.out); have U0 := Go.Lib.hid (heap_at w5 (.cells (vrow 66 Pic.zero.at) 27) (w5.heap.size) (by simp)); replace hB := Go.Lib.hid (hB.out.alloc hB.out.size (.cells (vrow 66 Pic.zero.at) 27)); generalize hxb : w5.heap.size = bb at U0 nbP0 gb ⊢; generalize (World.alloc w5 _) = Xb at hB U0 P0 ⊢; clear hxb; refine wpList_storeall rfl 27 (.tmp 7) (.tmp 17) rfl (bb) rfl 66 Pic.zero.at p.at rfl 27 size_pic U0.out (fun i _ => Pic.one _ i) ?_; replace U0 := Go.Lib.hid (row_set U0.out (vrow 66 p.at)); replace P0 := Go.Lib.hid (row_set' (g := bb) (by omega) P0.out (vrow 66 p.at)); replace hB := Go.Lib.hid (Below_setRow hB.out (g := bb) (by omega) (vrow 66 p.at)))
    | ((with_reducible refine wlOp (.store 27 (.tmp 9) (.tmp 25)) rfl ?_); have ncP0 := row_lt P0.out; have ncU0 := row_lt U0.out; have gc := hB.out.size; replace P0 := Go.Lib.hid (heap_past w7 (.cells (vrow 66 Pic.zero.at) 27) _ _ (row_lt P0.out) P0.out); replace U0 := Go.Lib.hid (heap_past w7 (.cells (vrow 66 Pic.zero.at) 27) _ _ (row_lt U0.out) U0.out); have V0 := Go.Lib.hid (heap_at w7 (.cells (vrow 66 Pic.zero.at) 27) (w7.heap.size) (by simp)); replace hB := Go.Lib.hid (hB.out.alloc hB.out.size (.cells (vrow 66 Pic.zero.at) 27)); generalize hxc : w7.heap.size = bc at V0 ncP0 ncU0 gc ⊢; generalize (World.alloc w7 _) = Xc at hB V0 P0 U0 ⊢; clear hxc; refine wpList_storeall rfl 27 (.tmp 9) (.tmp 25) rfl (bc) rfl 66 Pic.zero.at p.at rfl 27 size_pic V0.out (fun i _ => Pic.one _ i) ?_; replace V0 := Go.Lib.hid (row_set V0.out (vrow 66 p.at)); replace P0 := Go.Lib.hid (row_set' (g := bc) (by omega) P0.out (vrow 66 p.at)); replace U0 := Go.Lib.hid (row_set' (g := bc) (by omega) U0.out (vrow 66 p.at)); replace hB := Go.Lib.hid (Below_setRow hB.out (g := bc) (by omega) (vrow 66 p.at)))
    | ((with_reducible refine wlAt 27 rfl ?_); refine wpList_loadall rfl 27 (.tmp 9) rfl _ rfl 66 p.at 27 _ Try.underlying27 rfl size_pic V0.out ?_)
    | ((with_reducible refine wlAt 28 rfl ?_); refine wpList_loadall rfl 27 (.tmp 7) rfl _ rfl 66 p.at 27 _ Try.underlying27 rfl size_pic U0.out ?_)
    | (go_at_call 7; (first | (with_reducible refine (eqPicture_any p _).mono ?_)); rintro o w3 ⟨rfl, hb⟩; (try (replace U0 := Go.Lib.hid (row_next hb U0.out))); (try (replace V0 := Go.Lib.hid (row_next hb V0.out))); replace hB := Go.Lib.hid (below_next hB.out hb); clear hb))
  go_ret
  exact ⟨rfl, hB.out⟩
end Go.Proofs.Ytdigbikldkkhpaa
