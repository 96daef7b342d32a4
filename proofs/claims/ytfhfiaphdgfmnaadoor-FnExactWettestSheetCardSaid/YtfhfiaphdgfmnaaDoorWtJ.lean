import Derived.Deep.RegionHeld3
import Derived.Test.YtfhfiaphdgfmnaaDoorWtI
namespace Go.Proofs.YtfhfiaphdgfmnaaDoor
open Go.RowKit
set_option maxRecDepth 100000
set_option linter.unusedVariables false
set_option linter.unusedSimpArgs false
set_option maxHeartbeats 4000000 in
theorem iws_bad (ss : Nat → Sh) (D n : Nat) (e : ErrE) (w : World) (hE : Errs e w) (hn : n ≤ 1048576) (hf : ∀ i, (ss i).fit) (ho : stOk ss n = false) (h1 : w.heap[D]? = some (.cells (vrow (n * 266) (stF ss)) 39)) : Calls Tryd.prog 35 #[.slice (some ⟨D, 0, none⟩) n n] w fun o w' => o = .returned (.tuple #[.int .i64 0, .int .i64 0, .int .i64 1]) ∧ Below w.heap.size w w' := by
  have HK := Go.Lib.hid fun w hE h => ckSt_bad ss D n n e w hE hn hf ho h
  have P := Go.Lib.hid h1
  have hB := Go.Lib.hid (Below.refl w.heap.size w)
  clear h1 hf ho
  go_enter Tryd.func35, Tryd.ntmps35
  go_wp2_with (first
    | go_skip
    | (go_at_call 55; (refine (HK.out _ (hE.next hB.out) P.out).mono ?_); rintro o w1 ⟨rfl, hb⟩; replace P := Go.Lib.hid (row_next hb P.out); replace hB := Go.Lib.hid (below_next hB.out hb); clear hb)
    | (go_at_call 45; (refine (codeOf_1 e _ (hE.next hB.out)).mono ?_); rintro o w2 ⟨rfl, hb⟩; replace P := Go.Lib.hid (row_next hb P.out); replace hB := Go.Lib.hid (below_next hB.out hb); clear hb)
)
  first | go_ret3 | go_ret
  exact ⟨rfl, hB.out⟩
set_option maxHeartbeats 4000000 in
theorem iws_0 (ss : Nat → Sh) (D n : Nat) (e : ErrE) (w : World) (hE : Errs e w) (hn : n ≤ 1048576) (hf : ∀ i, (ss i).fit) (ho : stOk ss n = true) (h0 : n = 0) (h1 : w.heap[D]? = some (.cells (vrow (n * 266) (stF ss)) 39)) : Calls Tryd.prog 35 #[.slice (some ⟨D, 0, none⟩) n n] w fun o w' => o = .returned (.tuple #[.int .i64 0, .int .i64 0, .int .i64 6]) ∧ Below w.heap.size w w' := by
  subst h0
  have HK := Go.Lib.hid fun w hE h => ckSt_ok ss D 0 0 e w hE hn hf ho h
  have P := Go.Lib.hid h1
  have hB := Go.Lib.hid (Below.refl w.heap.size w)
  clear h1 hf ho
  go_enter Tryd.func35, Tryd.ntmps35
  go_wp2_with (first
    | go_skip
    | (go_at_call 55; (refine (HK.out _ (hE.next hB.out) P.out).mono ?_); rintro o w1 ⟨rfl, hb⟩; replace P := Go.Lib.hid (row_next hb P.out); replace hB := Go.Lib.hid (below_next hB.out hb); clear hb)
)
  first | go_ret3 | go_ret
  exact ⟨rfl, hB.out⟩
set_option maxHeartbeats 4000000 in
theorem iws_ok (ss : Nat → Sh) (D n : Nat) (e : ErrE) (w : World) (hE : Errs e w) (hn : n ≤ 1048576) (hf : ∀ i, (ss i).fit) (ho : stOk ss n = true) (h6 : n ≤ 6) (h0 : 0 < n) (hoo : ∀ k, k < n → okI (ss k) = true) (h1 : w.heap[D]? = some (.cells (vrow (n * 266) (stF ss)) 39)) : Calls Tryd.prog 35 #[.slice (some ⟨D, 0, none⟩) n n] w fun o w' => o = .returned (.tuple #[.int .i64 ((bestI (fun k => wsum (ss k) 64) (n - 1) : Nat) : Int), .int .i64 (wsum (ss (bestI (fun k => wsum (ss k) 64) (n - 1))) 64), .int .i64 0]) ∧ Below w.heap.size w w' := by
  have HK := Go.Lib.hid fun w hE h => ckSt_ok ss D n n e w hE hn hf ho h
  have HL := Go.Lib.hid fun w h => lev_any ss D n n w hn h
  have HM := Go.Lib.hid fun g c N f w hN hr hx => mf_any ss g n c N f w h0 h6 hN hf hoo hr hx
  have hble := bestI_le (fun k => wsum (ss k) 64) (n - 1)
  have HWT := Go.Lib.hid fun k w hk => wat_any (ss k) w (hf k) (hoo k hk)
  generalize bestI (fun k => wsum (ss k) 64) (n - 1) = b at *
  have h0I : decide ((n : Int) = 0) = false := by simp; omega
  have h0B : ((n : Int) == 0) = false := by simp; omega
  have hbn : b < n := by omega
  have HW := Go.Lib.hid fun w => HWT.out b w hbn
  have HSB := Go.Lib.hid (nm_sub (ss b) b); have HNB := Go.Lib.hid (nm_no (ss b) b)
  generalize wsum (ss b) 64 = x at *
  have zn := zero_nu
  have P := Go.Lib.hid h1
  have hB := Go.Lib.hid (Below.refl w.heap.size w)
  clear h1 hf ho hoo HWT
  go_enter Tryd.func35, Tryd.ntmps35
  go_wp2_with (first
    | go_skip
    | (go_at_call 55; (refine (HK.out _ (hE.next hB.out) P.out).mono ?_); rintro o w1 ⟨rfl, hb⟩; replace P := Go.Lib.hid (row_next hb P.out); replace hB := Go.Lib.hid (below_next hB.out hb); clear hb)
    | (go_at_call 63; (refine (HL.out _ P.out).mono ?_); rintro o w2 ⟨v, rfl, ⟨g, N, f, c, rfl, hg, hN, hr, hx⟩, hb⟩; replace hB := Go.Lib.hid (below_next hB.out hb); clear hb; have G := Go.Lib.hid hr; clear hr hg; have HNX := Go.Lib.hid (And.intro hN hx); clear hN hx P)
    | (go_at_call 70; (refine (HM.out _ _ _ _ _ HNX.out.1 G.out HNX.out.2).mono ?_); rintro o w3 ⟨rfl, hb⟩; replace hB := Go.Lib.hid (below_next hB.out hb); clear hb G)
    | ((with_reducible refine wlOp (.store 94 (.tmp 6) (.tmp 18)) rfl ?_); refine wpList_storeall rfl 94 (.tmp 6) (.tmp 18) rfl _ rfl 267 (nm Sh.zero 0) (nm (ss b) b) rfl 94 size_nu (heap_at _ _ _ rfl) (fun i _ => nm_one _ _ i) ?_; rw [setRow_at _ _ _ _ _ rfl]; have M := Go.Lib.hid (heap_at w3 (.cells (vrow 267 (nm (ss b) b)) 94) _ rfl); replace hB := Go.Lib.hid (hB.out.alloc hB.out.size (.cells (vrow 267 (nm (ss b) b)) 94)); generalize w3.heap.size = mb at M ⊢; generalize w3.alloc _ = w4 at M hB ⊢))
  refine region_at (by kernel_rfl) (by kernel_rfl) ?_
  intro W hW
  rw [hW] at hB M
  clear hW
  have M' := Go.Lib.hid (cls_row' M.out)
  (try simp only [Act.put, List.setIfInBounds_toArray, List.set_cons_succ, List.set_cons_zero])
  (first | go_big_quiet_skip | go_big_quiet_step (fail))
  (refine wpQuiet_load1 2 (.tmp 19) rfl (by first | exact want_n rfl | exact want_g _ _ _ rfl rfl rfl) mb 266 rfl 267 (nm (ss b) b) _ rw_i64 M'.out (by omega) ?_; rw [HNB.out]; simp only [Act.put, List.setIfInBounds_toArray, List.set_cons_succ, List.set_cons_zero])
  (first | go_big_quiet_skip | go_big_quiet_step (fail))
  (refine wpQuiet_loadmid 39 (.tmp 21) rfl (by first | exact want_n rfl | exact want_g _ _ _ rfl rfl rfl) mb 0 rfl 267 266 (nm (ss b) b) _ rw_sheet size_sheet M'.out (by omega) ?_; rw [HSB.out]; simp only [Act.put, List.setIfInBounds_toArray, List.set_cons_succ, List.set_cons_zero])
  go_big_quiet_step ((go_at_call 73; exact cls_call _ (fun w hw => HW.out w)))
  repeat (first | go_big_quiet_skip | go_big_quiet_step (fail))
  refine wpQuiet_nil ?_
  intro Wn hb
  replace hB := Go.Lib.hid (below_next hB.out hb)
  clear hb
  go_wp2
  first | go_ret3 | go_ret
  exact ⟨rfl, hB.out⟩
end Go.Proofs.YtfhfiaphdgfmnaaDoor
