import Derived.Deep.RegionHeld3
import Derived.Test.YtfhfiaphdgfmnaaDoorRbS
import Derived.Test.YtfhfiaphdgfmnaaDoorDyP
import Derived.Test.YtfhfiaphdgfmnaaDoorLev
import Derived.Test.YtfhfiaphdgfmnaaDoorCodeOf
namespace Go.Proofs.YtfhfiaphdgfmnaaDoor
open Go.RowKit
set_option maxRecDepth 100000
set_option linter.unusedVariables false
set_option linter.unusedSimpArgs false
theorem ckRb_bad (ss : Nat → Sh) (D n : Nat) (q : Int) (e : ErrE) (w : World) (hE : Errs e w) (hn : n ≤ 1048576) (hf : ∀ i, (ss i).fit) (ho : stOk ss n = false) (h1 : w.heap[D]? = some (.cells (vrow (n * 266) (stF ss)) 39)) : Calls Tryd.prog 62 #[.slice (some ⟨D, 0, none⟩) n n, .int .i64 q] w fun o w' => o = .returned (errP e 1) ∧ Below w.heap.size w w' := by
  have HC := Go.Lib.hid fun w hE h => ckSt_bad ss D n n e w hE hn hf ho h
  have P := Go.Lib.hid h1
  have E := Go.Lib.hid hE
  have hB := Go.Lib.hid (Below.refl w.heap.size w)
  clear h1 ho hf
  go_enter Tryd.func62, Tryd.ntmps62
  go_wp2_with (first
    | go_skip
    | (go_at_call 55; (refine (HC.out _ E.out P.out).mono ?_); rintro o w1 ⟨rfl, hb⟩; replace E := Go.Lib.hid (E.out.next hb); replace P := Go.Lib.hid (row_next hb P.out); replace hB := Go.Lib.hid (below_next hB.out hb); clear hb)
    | (with_reducible refine wlAt 17 rfl ?_; refine wpList_ld1 73 _ rfl (by first | exact want_n rfl | exact want_g _ _ _ rfl rfl rfl) 1 0 rfl 1 (fun _ => errP e 2) _ rw_err E.out.v2 (by omega) ?_))
  go_ret
  exact ⟨rfl, hB.out⟩
theorem ckRb_lo (ss : Nat → Sh) (D n : Nat) (q : Int) (e : ErrE) (w : World) (hE : Errs e w) (hn : n ≤ 1048576) (hf : ∀ i, (ss i).fit) (ho : stOk ss n = true) (hq : q < 0) (h1 : w.heap[D]? = some (.cells (vrow (n * 266) (stF ss)) 39)) : Calls Tryd.prog 62 #[.slice (some ⟨D, 0, none⟩) n n, .int .i64 q] w fun o w' => o = .returned (errP e 2) ∧ Below w.heap.size w w' := by
  have HC := Go.Lib.hid fun w hE h => ckSt_ok ss D n n e w hE hn hf ho h
  have d1 : decide (q < 0) = true := by simpa using hq
  clear hq
  have P := Go.Lib.hid h1
  have E := Go.Lib.hid hE
  have hB := Go.Lib.hid (Below.refl w.heap.size w)
  clear h1 ho hf
  go_enter Tryd.func62, Tryd.ntmps62
  go_wp2_with (first
    | go_skip
    | (go_at_call 55; (refine (HC.out _ E.out P.out).mono ?_); rintro o w1 ⟨rfl, hb⟩; replace E := Go.Lib.hid (E.out.next hb); replace P := Go.Lib.hid (row_next hb P.out); replace hB := Go.Lib.hid (below_next hB.out hb); clear hb)
    | (with_reducible refine wlAt 17 rfl ?_; refine wpList_ld1 73 _ rfl (by first | exact want_n rfl | exact want_g _ _ _ rfl rfl rfl) 1 0 rfl 1 (fun _ => errP e 2) _ rw_err E.out.v2 (by omega) ?_))
  go_ret
  exact ⟨rfl, hB.out⟩
theorem ckRb_hi (ss : Nat → Sh) (D n : Nat) (q : Int) (e : ErrE) (w : World) (hE : Errs e w) (hn : n ≤ 1048576) (hf : ∀ i, (ss i).fit) (ho : stOk ss n = true) (hq : 3 ≤ q) (h1 : w.heap[D]? = some (.cells (vrow (n * 266) (stF ss)) 39)) : Calls Tryd.prog 62 #[.slice (some ⟨D, 0, none⟩) n n, .int .i64 q] w fun o w' => o = .returned (errP e 2) ∧ Below w.heap.size w w' := by
  have HC := Go.Lib.hid fun w hE h => ckSt_ok ss D n n e w hE hn hf ho h
  have d1 : decide (q < 0) = false := by simp; omega
  have d2 : decide (3 ≤ q) = true := by simpa using hq
  have d3 : decide (q ≥ 3) = true := by simpa using hq
  clear hq
  have P := Go.Lib.hid h1
  have E := Go.Lib.hid hE
  have hB := Go.Lib.hid (Below.refl w.heap.size w)
  clear h1 ho hf
  go_enter Tryd.func62, Tryd.ntmps62
  go_wp2_with (first
    | go_skip
    | (go_at_call 55; (refine (HC.out _ E.out P.out).mono ?_); rintro o w1 ⟨rfl, hb⟩; replace E := Go.Lib.hid (E.out.next hb); replace P := Go.Lib.hid (row_next hb P.out); replace hB := Go.Lib.hid (below_next hB.out hb); clear hb)
    | (with_reducible refine wlAt 17 rfl ?_; refine wpList_ld1 73 _ rfl (by first | exact want_n rfl | exact want_g _ _ _ rfl rfl rfl) 1 0 rfl 1 (fun _ => errP e 2) _ rw_err E.out.v2 (by omega) ?_))
  go_ret
  exact ⟨rfl, hB.out⟩
theorem ckRb_ok (ss : Nat → Sh) (D n : Nat) (q : Int) (e : ErrE) (w : World) (hE : Errs e w) (hn : n ≤ 1048576) (hf : ∀ i, (ss i).fit) (ho : stOk ss n = true) (hq : 0 ≤ q ∧ q < 3) (h1 : w.heap[D]? = some (.cells (vrow (n * 266) (stF ss)) 39)) : Calls Tryd.prog 62 #[.slice (some ⟨D, 0, none⟩) n n, .int .i64 q] w fun o w' => o = .returned (.nilIface) ∧ Below w.heap.size w w' := by
  have HC := Go.Lib.hid fun w hE h => ckSt_ok ss D n n e w hE hn hf ho h
  have d1 : decide (q < 0) = false := by simp; omega
  have d2 : decide (3 ≤ q) = false := by simp; omega
  have d3 : decide (q ≥ 3) = false := by simp; omega
  clear hq
  have P := Go.Lib.hid h1
  have E := Go.Lib.hid hE
  have hB := Go.Lib.hid (Below.refl w.heap.size w)
  clear h1 ho hf
  go_enter Tryd.func62, Tryd.ntmps62
  go_wp2_with (first
    | go_skip
    | (go_at_call 55; (refine (HC.out _ E.out P.out).mono ?_); rintro o w1 ⟨rfl, hb⟩; replace E := Go.Lib.hid (E.out.next hb); replace P := Go.Lib.hid (row_next hb P.out); replace hB := Go.Lib.hid (below_next hB.out hb); clear hb)
    | (with_reducible refine wlAt 17 rfl ?_; refine wpList_ld1 73 _ rfl (by first | exact want_n rfl | exact want_g _ _ _ rfl rfl rfl) 1 0 rfl 1 (fun _ => errP e 2) _ rw_err E.out.v2 (by omega) ?_))
  go_ret
  exact ⟨rfl, hB.out⟩
theorem irb_err (ss : Nat → Sh) (D n : Nat) (q : Int) (e : ErrE) (c : Nat) (cz : Int) (w : World) (hE : Errs e w) (HC : Hid (∀ w, Errs e w → w.heap[D]? = some (.cells (vrow (n * 266) (stF ss)) 39) → Calls Tryd.prog 62 #[.slice (some ⟨D, 0, none⟩) n n, .int .i64 q] w fun o w' => o = .returned (errP e c) ∧ Below w.heap.size w w')) (HD : Hid (∀ w, Errs e w → Calls Tryd.prog 45 #[errP e c] w fun o w' => o = .returned (.int .i64 cz) ∧ Below w.heap.size w w')) (h1 : w.heap[D]? = some (.cells (vrow (n * 266) (stF ss)) 39)) : Calls Tryd.prog 28 #[.slice (some ⟨D, 0, none⟩) n n, .int .i64 q] w fun o w' => o = .returned (.tuple #[.slice none 0 0, .int .i64 cz]) ∧ Below w.heap.size w w' := by
  have P := Go.Lib.hid h1
  have hB := Go.Lib.hid (Below.refl w.heap.size w)
  clear h1
  go_enter Tryd.func28, Tryd.ntmps28
  go_wp2_with (first
    | go_skip
    | (go_at_call 62; (refine (HC.out _ (hE.next hB.out) P.out).mono ?_); rintro o w1 ⟨rfl, hb⟩; replace P := Go.Lib.hid (row_next hb P.out); replace hB := Go.Lib.hid (below_next hB.out hb); clear hb)
    | (go_at_call 45; (refine (HD.out _ (hE.next hB.out)).mono ?_); rintro o w2 ⟨rfl, hb⟩; replace P := Go.Lib.hid (row_next hb P.out); replace hB := Go.Lib.hid (below_next hB.out hb); clear hb))
  go_ret2
  exact ⟨rfl, hB.out⟩
set_option maxHeartbeats 4000000 in
theorem irb_ok (ss : Nat → Sh) (D n q : Nat) (e : ErrE) (w : World) (hE : Errs e w) (hn : n ≤ 1048576) (hf : ∀ i, (ss i).fit) (ho : stOk ss n = true) (hoo : ∀ k, k < n → okI (ss k) = true) (hq : q < 3) (h1 : w.heap[D]? = some (.cells (vrow (n * 266) (stF ss)) 39)) : Calls Tryd.prog 28 #[.slice (some ⟨D, 0, none⟩) n n, .int .i64 q] w fun o w' => ∃ v, o = .returned (.tuple #[v, .int .i64 0]) ∧ w'.ownsRow w.heap.size 2 1 v (rchT ss q n).length (ivals (rchT ss q n)) ∧ Below w.heap.size w w' := by
  obtain ⟨i0, hi, hz0, hz1, hz2⟩ := info_partsK info_i64
  have HC := Go.Lib.hid fun w hE h => ckRb_ok ss D n (q : Int) e w hE hn hf ho (by omega) h
  have HL := Go.Lib.hid fun w h => lev_any ss D n n w hn h
  have HDY := Go.Lib.hid fun k w hk => (show Calls Tryd.prog 64 #[.agg (vrow 266 (ss k).at)] w fun o w' => o = .returned (.agg (vrow 3 (ivF fun i => isum (ss k) i 64))) ∧ Below w.heap.size w w' from by have h := dyes_any (ss k) w (hf k) (hoo k hk); rwa [sumK_iv] at h)
  have zn := zero_nu
  clear hf ho hoo
  have P := Go.Lib.hid h1
  have hB := Go.Lib.hid (Below.refl w.heap.size w)
  clear h1
  go_enter Tryd.func28, Tryd.ntmps28
  go_wp2_with (first
    | go_skip
    | (go_at_call 62; (refine (HC.out _ (hE.next hB.out) P.out).mono ?_); rintro o w1 ⟨rfl, hb⟩; replace P := Go.Lib.hid (row_next hb P.out); replace hB := Go.Lib.hid (below_next hB.out hb); clear hb)
    | (go_at_call 63; (refine (HL.out _ P.out).mono ?_); rintro o w2 ⟨v, rfl, ⟨g, N, f, c, rfl, hg, hN, hr, hx⟩, hb⟩; replace hB := Go.Lib.hid (below_next hB.out hb); clear hb; clear hg P))
  have b1 := hB.out
  have hgl := row_lt hr
  have o1 : w2.ownsRow w2.heap.size 2 1 (.slice none 0 0) 0 [] := World.ownsRow_nil _ _ _ _
  have hwB := b1.size
  clear hB
  generalize hBe : w2.heap.size = B at o1 hgl hwB
  have hs2 : B ≤ w2.heap.size := by omega
  clear hBe
  go_loopw [7, 20] (fun v iv wr => ∃ k : Nat, k ≤ n ∧ iv = .int .i64 k ∧ wr.ownsRow B 2 1 v (rchT ss q k).length (ivals (rchT ss q k)) ∧ wr.heap[g]? = some (.cells (vrow N f) 94) ∧ B ≤ wr.heap.size ∧ Below w.heap.size w wr) (fun _ iv _ => n - (intOf iv).toNat)
  case atStart => exact ⟨0, by omega, rfl, by simpa [rchT, ivals] using o1, hr, hs2, b1⟩
  case round =>
    clear o1 hr b1 hs2
    obtain ⟨k, hk, rfl, O, P, hS, hB⟩ := hrel
    by_cases hlt : k < n
    · have hst := rchT_step ss q k
      have hle := rchT_len ss q k
      have HY := Go.Lib.hid fun w => HDY.out k w hlt
      have hix := idxA3 (fun i => isum (ss k) i 64) q hq
      have HXk := Go.Lib.hid (show vrow 267 (fun j => f (k * 267 + j)) = vrow 267 (nm (ss k) k) from vrow_ext _ _ _ fun j hj => hx k hlt j hj)
      have HSB := Go.Lib.hid (nm_sub (ss k) k); have HNB := Go.Lib.hid (nm_no (ss k) k)
      have HST := Go.Lib.hid hst
      have hxr : k * 267 + 267 ≤ N := by omega
      clear hst hx
      have hix2 : ∀ w, (Instr.index 50 (.agg (vrow 3 (ivF fun i => isum (ss k) i 64))) (.int .i64 q)).run Tryd.prog w = .ok (.int .i64 (isum (ss k) q 64)) w := hix
      clear hix
      generalize isum (ss k) q 64 = Nn at hix2 HST
      generalize (fun i => isum (ss k) i 64) = gg at HY hix2
      generalize rchT ss q k = M at *
      generalize ss k = sk at HY HXk HSB HNB
      replace P := Go.Lib.hid P; replace O := Go.Lib.hid O; replace hB := Go.Lib.hid hB
      have hkI : (k : Int) < (n : Int) := by omega
      have hk0 : (0 : Int) ≤ (k : Int) := by omega
      have hnl : (n : Int) ≤ 1048576 := by omega
      have hqI2 : (q : Int) < 3 := by omega
      have hq0 : (0 : Int) ≤ (q : Int) := by omega
      cases hqd : decide (0 < Nn)
      · have hqI : decide ((0 : Int) < Nn) = false := hqd
        have HS2 := Go.Lib.hid (show rchT ss q (k + 1) = M by rw [HST.out, hqd, if_neg (by simp), List.append_nil])
        clear hqd
        go_wp2_with (first
          | go_skip
          | ((with_reducible refine wlAt 23 rfl ?_); refine wpList_loadmid rfl 94 (.tmp 22) rfl g (k * 267) rfl N 267 f 94 _ Tryd.underlying94 rfl size_nu P.out (by omega) ?_; rw [HXk.out])
          | ((with_reducible refine wlOp (.store 94 (.tmp 9) (.tmp 23)) rfl ?_); refine wpList_storeall rfl 94 (.tmp 9) (.tmp 23) rfl _ rfl 267 (nm Sh.zero 0) (nm sk k) rfl 94 size_nu (heap_at _ _ _ rfl) (fun i _ => nm_one _ _ i) ?_; rw [setRow_at _ _ _ _ _ rfl]; have X := Go.Lib.hid (heap_at wr (.cells (vrow 267 (nm sk k)) 94) _ rfl); have nP := row_lt P.out; replace P := Go.Lib.hid (heap_past _ (.cells (vrow 267 (nm sk k)) 94) _ _ nP P.out); clear nP; replace O := Go.Lib.hid (O.out.alloc (.cells (vrow 267 (nm sk k)) 94)); replace hB := Go.Lib.hid (hB.out.alloc hB.out.size (.cells (vrow 267 (nm sk k)) 94)); replace hS : B ≤ (wr.alloc (.cells (vrow 267 (nm sk k)) 94)).heap.size := Nat.le_trans hS (by simp); generalize wr.heap.size = xb at X ⊢; generalize wr.alloc _ = wx at X P O hB hS ⊢)
          | ((with_reducible refine wlAt 25 rfl ?_); refine wpList_loadmid rfl 39 (.tmp 24) rfl xb 0 rfl 267 266 (nm sk k) 94 _ Tryd.underlying39 rfl size_sheet X.out (by omega) ?_; rw [HSB.out])
          | (go_at_call 64; (refine (HY.out _).mono ?_); rintro o w3 ⟨rfl, hb⟩; replace X := Go.Lib.hid (row_next hb X.out); replace P := Go.Lib.hid (row_next hb P.out); replace O := Go.Lib.hid (O.out.kept (grown_next (grown_refl _ none) hb) (by cases hv : Value.ownBlock _ <;> simp)); replace hB := Go.Lib.hid (below_next hB.out hb); replace hS := Nat.le_trans hS hb.size; clear hb))
        go_roundw
        case rel => exact ⟨k + 1, by omega, by go_num, by rw [HS2.out]; exact O.out, P.out, hS, hB.out⟩
        case measure => simp [intOf]; omega
      · have hqI : decide ((0 : Int) < Nn) = true := hqd
        have HS2 := Go.Lib.hid (show rchT ss q (k + 1) = M ++ [k] by rw [HST.out, hqd, if_pos rfl])
        clear hqd
        go_wp2_with (first
          | go_skip
          | ((with_reducible refine wlAt 23 rfl ?_); refine wpList_loadmid rfl 94 (.tmp 22) rfl g (k * 267) rfl N 267 f 94 _ Tryd.underlying94 rfl size_nu P.out (by omega) ?_; rw [HXk.out])
          | ((with_reducible refine wlOp (.store 94 (.tmp 9) (.tmp 23)) rfl ?_); refine wpList_storeall rfl 94 (.tmp 9) (.tmp 23) rfl _ rfl 267 (nm Sh.zero 0) (nm sk k) rfl 94 size_nu (heap_at _ _ _ rfl) (fun i _ => nm_one _ _ i) ?_; rw [setRow_at _ _ _ _ _ rfl]; have X := Go.Lib.hid (heap_at wr (.cells (vrow 267 (nm sk k)) 94) _ rfl); have nP := row_lt P.out; replace P := Go.Lib.hid (heap_past _ (.cells (vrow 267 (nm sk k)) 94) _ _ nP P.out); clear nP; replace O := Go.Lib.hid (O.out.alloc (.cells (vrow 267 (nm sk k)) 94)); replace hB := Go.Lib.hid (hB.out.alloc hB.out.size (.cells (vrow 267 (nm sk k)) 94)); replace hS : B ≤ (wr.alloc (.cells (vrow 267 (nm sk k)) 94)).heap.size := Nat.le_trans hS (by simp); generalize wr.heap.size = xb at X ⊢; generalize wr.alloc _ = wx at X P O hB hS ⊢)
          | ((with_reducible refine wlAt 25 rfl ?_); refine wpList_loadmid rfl 39 (.tmp 24) rfl xb 0 rfl 267 266 (nm sk k) 94 _ Tryd.underlying39 rfl size_sheet X.out (by omega) ?_; rw [HSB.out])
          | (go_at_call 64; (refine (HY.out _).mono ?_); rintro o w3 ⟨rfl, hb⟩; replace X := Go.Lib.hid (row_next hb X.out); replace P := Go.Lib.hid (row_next hb P.out); replace O := Go.Lib.hid (O.out.kept (grown_next (grown_refl _ none) hb) (by cases hv : Value.ownBlock _ <;> simp)); replace hB := Go.Lib.hid (below_next hB.out hb); replace hS := Nat.le_trans hS hb.size; clear hb)
          | ((with_reducible refine wlAt 32 rfl ?_); refine wpList_ld1 2 _ rfl (by first | exact want_n rfl | exact want_g _ _ _ rfl rfl rfl) xb 266 rfl 267 (nm sk k) _ prwK_i64 X.out (by omega) ?_; rw [HNB.out]; clear X)
          | (at_builtin; refine wpList_append_own _ rfl (.tmp 30) (.tmp 33) 54 rfl B 2 i0 (.int .i64 0) 1 8 Tryd.underlying54 hi hz0 hz1 hz2 rfl (by decide) _ _ _ rfl (O.out.alloc _) ⟨w3.heap.size, 0, none⟩ 1 1 [.int .i64 k] rfl rfl (World.news_of_block (heap_at _ _ _ rfl)) (by simp [Value.oneCell']) (by simp only [maxLen]; omega) (by omega) (by simp; omega) ?_; intro v' w4 hown' hgrow _))
        have hov := O.out.lt
        have lp := row_lt P.out; have lb := hB.out.size
        have P1 : w4.heap[g]? = some (.cells (vrow N f) 94) := (hgrow.block _ (by simp; omega) (fun e => by have := (hov _ e.symm).1; omega)).trans (heap_past _ _ _ _ lp P.out)
        have hN1 : B ≤ w4.heap.size := Nat.le_trans (by simp; omega) hgrow.size
        have B1 : Below w.heap.size w w4 := (hB.out.alloc hB.out.size _).grown hgrow (by simp; omega) (fun q hq => by have := (hov q hq).1; omega)
        go_roundw
        case rel => exact ⟨k + 1, by omega, by go_num, by rw [HS2.out, List.length_append, ivals_app]; exact hown', P1, hN1, B1⟩
        case measure => simp [intOf]; omega
    · obtain rfl : k = n := by omega
      have hd : decide ((k : Int) < (k : Int)) = false := by simp
      replace O := Go.Lib.hid O; replace hB := Go.Lib.hid hB
      go_wp2
      go_ret2
      exact ⟨_, rfl, own_monoK hwB O.out, hB.out⟩
end Go.Proofs.YtfhfiaphdgfmnaaDoor
