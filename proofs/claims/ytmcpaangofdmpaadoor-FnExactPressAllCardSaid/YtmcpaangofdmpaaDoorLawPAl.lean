import Derived.StillTail
import Derived.StillTailTactics
import Derived.Deep.RegionHeld3
import Derived.Test.YtmcpaangofdmpaaDoorFdO
import Derived.Test.YtmcpaangofdmpaaDoorFdS
import Derived.Test.YtmcpaangofdmpaaDoorEqSheet
import Derived.Test.YtmcpaangofdmpaaDoorPrS
import Derived.Test.YtmcpaangofdmpaaDoorPrA
import Derived.Test.YtmcpaangofdmpaaDoorPrK
namespace Go.Proofs.YtmcpaangofdmpaaDoor
open Go.RowKit
set_option maxRecDepth 100000
set_option linter.unusedVariables false
set_option linter.unusedSimpArgs false
set_option maxHeartbeats 2000000 in
theorem eqFoldS_any (D1 D2 n : Nat) (px : Nat → Int) (py : Nat → Bool) (pn : Nat → Int) (w : World) (hn : n ≤ 1048576) (h1 : w.heap[D1]? = some (.cells (vrow (n * 3) (fdf px py pn)) 38)) (h2 : w.heap[D2]? = some (.cells (vrow (n * 3) (fdf px py pn)) 38)) : Calls Tryd.prog 21 #[.slice (some ⟨D1, 0, none⟩) n n, .slice (some ⟨D2, 0, none⟩) n n] w fun e w' => e = .returned (.bool true) ∧ Below w.heap.size w w' := by
  have R1 := Go.Lib.hid h1
  have R2 := Go.Lib.hid h2
  have hB := Go.Lib.hid (Below.refl w.heap.size w)
  clear h1 h2
  go_enter Tryd.func21, Tryd.ntmps21
  go_wp2
  go_loopw [5] (fun iv wr => ∃ k : Nat, k ≤ n ∧ iv = .int .i64 k ∧ wr.heap[D1]? = some (.cells (vrow (n * 3) (fdf px py pn)) 38) ∧ wr.heap[D2]? = some (.cells (vrow (n * 3) (fdf px py pn)) 38) ∧ Below w.heap.size w wr) (fun iv _ => n - (intOf iv).toNat)
  case atStart => exact ⟨0, by omega, rfl, R1.out, R2.out, hB.out⟩
  case round =>
    clear R1 R2 hB
    obtain ⟨k, hk, rfl, R1, R2, hB⟩ := hrel
    replace R1 := Go.Lib.hid R1; replace R2 := Go.Lib.hid R2; replace hB := Go.Lib.hid hB
    by_cases hlt : k < n
    · have hkI : (k : Int) < (n : Int) := by omega
      have hnl : (n : Int) ≤ 1048576 := by omega
      have hsz := hB.out.size
      go_wp2
      refine wp_region_still_tail 8 (by kernel_rfl) (by kernel_rfl) ?_
      simp only [List.take_succ_cons, List.take_zero, List.drop_succ_cons, List.drop_zero, World.drew_eq]
      repeat (first
        | (refine wpStill_loadmid rfl 38 (.tmp 19) rfl D1 (k * 3) rfl (n * 3) 3 (fdf px py pn) 38 _ Tryd.underlying38 rfl size_fold R1.out (by omega) ?_; rw [fdf_three]; (try simp only [Act.put, List.setIfInBounds_toArray, List.set_cons_succ, List.set_cons_zero]))
        | (refine wpStill_loadmid rfl 38 (.tmp 23) rfl D2 (k * 3) rfl (n * 3) 3 (fdf px py pn) 38 _ Tryd.underlying38 rfl size_fold R2.out (by omega) ?_; rw [fdf_three]; (try simp only [Act.put, List.setIfInBounds_toArray, List.set_cons_succ, List.set_cons_zero]))
        | still_step)
      refine wpStill_nil ?_
      replace R1 := Go.Lib.hid (drwP R1.out); replace R2 := Go.Lib.hid (drwP R2.out); replace hB := Go.Lib.hid (hB.out.drew)
      generalize World.drew _ = W2 at R1 R2 hB ⊢
      go_wp2_with (first
        | go_skip
        | (go_at_call 30; (refine (eqFo_any (px k) (py k) (pn k) _).mono ?_); rintro o w1 ⟨rfl, hb⟩; replace R1 := Go.Lib.hid (row_next hb R1.out); replace R2 := Go.Lib.hid (row_next hb R2.out); replace hB := Go.Lib.hid (below_next hB.out hb); clear hb))
      go_roundw
      case rel => exact ⟨k + 1, by omega, by go_num, R1.out, R2.out, hB.out⟩
      case measure => simp [intOf]; omega
    · obtain rfl : k = n := by omega
      have hd : decide ((k : Int) < (k : Int)) = false := by simp
      go_wp2
      go_ret
      exact ⟨rfl, hB.out⟩
set_option maxRecDepth 100000 in
set_option maxHeartbeats 4000000 in
theorem pal_walk (s : Sh) (ao : Option Addr) (n cap : Nat) (px : Nat → Int) (py : Nat → Bool) (pn : Nat → Int) (r : Sh) (m k : Int) (e : ErrE) (w : World) (hE : Errs e w) (hm : n ≤ 9223372036854775807) (hp : FdsC w ao n px py pn)
    (hS : n ≤ 1048576 → ∀ D w, w.heap[D]? = some (.cells (vrow (n * 3) (fdf px py pn)) 38) → Calls Tryd.prog 18 #[.agg s.row, .slice (some ⟨D, 0, none⟩) n n] w fun o w' => o = .returned (.tuple #[.agg r.row, .int .i64 m, .int .i64 k]) ∧ Below w.heap.size w w')
    (hI : n ≤ 1048576 → ∀ D w, Errs e w → w.heap[D]? = some (.cells (vrow (n * 3) (fdf px py pn)) 38) → Calls Tryd.prog 20 #[.agg s.row, .slice (some ⟨D, 0, none⟩) n n] w fun o w' => o = .returned (.tuple #[.agg r.row, .int .i64 m, .int .i64 k]) ∧ Below w.heap.size w w') :
    Calls Tryd.prog 4 #[.agg s.row, .slice ao n cap] w fun o w' => o = .returned (.bool true) ∧ Below w.heap.size w w' := by
  have HT := Go.Lib.hid fun w => toSheet_any s w
  have HZ := Go.Lib.hid fun w => szF_any ao n cap hm w
  have zz := zero_sheet
  have P : Hid ((w.alloc (.cells (vrow 266 s.at) 31)).heap[w.heap.size]? = some (.cells (vrow 266 s.at) 31)) := (heap_at _ _ _ (by simp))
  have hB : Hid (Below w.heap.size w (w.alloc (.cells (vrow 266 s.at) 31))) := Go.Lib.hid ((Below.refl w.heap.size w).alloc (by simp <;> omega) _)
  have E : Hid (Errs e (w.alloc (.cells (vrow 266 s.at) 31))) := Go.Lib.hid (hE.alloc _)
  have HP := Go.Lib.hid (hp.next ((Below.refl w.heap.size w).alloc (Nat.le_refl _) (.cells (vrow 266 s.at) 31)))
  clear hp
  by_cases hn : n ≤ 1048576
  · have hd : decide ((1048576 : Int) - (n : Int) < 0) = false := by simp; omega
    have HZ' := Go.Lib.hid fun w => by have h := HZ.out w; rw [if_pos hn] at h; exact h
    have HC := Go.Lib.hid fun w h => toFoldS_any ao n cap px py pn w hn h
    have HS := Go.Lib.hid (hS hn)
    have HI := Go.Lib.hid (hI hn)
    have HQ := Go.Lib.hid fun D D' w h h' => eqFoldS_any D D' n px py pn w hn h h'
    have F0 : Hid True := Go.Lib.hid trivial
    have F1 : Hid True := Go.Lib.hid trivial
    clear HZ hS hI
    go_enter Tryd.func4, Tryd.ntmps4
    go_wp2_with (first
      | go_skip
      | ((with_reducible refine wlAt 19 rfl ?_); refine wpList_loadall rfl 31 (.tmp 2) rfl _ rfl 266 s.at 31 _ Tryd.underlying31 rfl size_lsheet P.out ?_)
      | ((with_reducible refine wlAt 30 rfl ?_); refine wpList_loadall rfl 31 (.tmp 2) rfl _ rfl 266 s.at 31 _ Tryd.underlying31 rfl size_lsheet P.out ?_)
      | ((with_reducible refine wlOp (.store 34 (.tmp 6) (.tmp 24)) rfl ?_); refine wpList_storeall rfl 34 (.tmp 6) (.tmp 24) rfl _ rfl 266 Sh.zero.at r.at rfl 34 size_sheet (heap_at _ _ _ rfl) (fun i _ => Sh.one _ i) ?_; rw [setRow_at _ _ _ _ _ rfl]; (try (replace P := Go.Lib.hid (heap_past w1 (.cells (vrow 266 r.at) 34) _ _ (row_lt P.out) P.out))); (try (replace D2 := Go.Lib.hid (heap_past w1 (.cells (vrow 266 r.at) 34) _ _ (row_lt D2.out) D2.out))); (try (replace U := Go.Lib.hid (heap_past w1 (.cells (vrow 266 r.at) 34) _ _ (row_lt U.out) U.out))); have U := Go.Lib.hid (heap_at w1 (.cells (vrow 266 r.at) 34) _ rfl); replace HP := Go.Lib.hid (HP.out.next ((Below.refl _ _).alloc (Nat.le_refl _) (.cells (vrow 266 r.at) 34))); replace E := Go.Lib.hid (E.out.alloc (.cells (vrow 266 r.at) 34)); replace hB := Go.Lib.hid (hB.out.alloc hB.out.size (.cells (vrow 266 r.at) 34)))
      | ((with_reducible refine wlOp (.store 34 (.tmp 10) (.tmp 34)) rfl ?_); refine wpList_storeall rfl 34 (.tmp 10) (.tmp 34) rfl _ rfl 266 Sh.zero.at r.at rfl 34 size_sheet (heap_at _ _ _ rfl) (fun i _ => Sh.one _ i) ?_; rw [setRow_at _ _ _ _ _ rfl]; (try (replace P := Go.Lib.hid (heap_past w1 (.cells (vrow 266 r.at) 34) _ _ (row_lt P.out) P.out))); (try (replace D2 := Go.Lib.hid (heap_past w1 (.cells (vrow 266 r.at) 34) _ _ (row_lt D2.out) D2.out))); (try (replace U := Go.Lib.hid (heap_past w1 (.cells (vrow 266 r.at) 34) _ _ (row_lt U.out) U.out))); have V := Go.Lib.hid (heap_at w1 (.cells (vrow 266 r.at) 34) _ rfl); replace HP := Go.Lib.hid (HP.out.next ((Below.refl _ _).alloc (Nat.le_refl _) (.cells (vrow 266 r.at) 34))); replace E := Go.Lib.hid (E.out.alloc (.cells (vrow 266 r.at) 34)); replace hB := Go.Lib.hid (hB.out.alloc hB.out.size (.cells (vrow 266 r.at) 34)))
      | ((with_reducible refine wlAt 37 rfl ?_); refine wpList_loadall rfl 34 (.tmp 10) rfl _ rfl 266 r.at 34 _ Tryd.underlying34 rfl size_sheet V.out ?_)
      | ((with_reducible refine wlAt 38 rfl ?_); refine wpList_loadall rfl 34 (.tmp 6) rfl _ rfl 266 r.at 34 _ Tryd.underlying34 rfl size_sheet U.out ?_)
      | (go_at_call 16; (refine (eqSheet_any r _).mono ?_); rintro o w1 ⟨rfl, hb⟩; (try (replace D1 := Go.Lib.hid (row_next hb D1.out))); (try (replace D2 := Go.Lib.hid (row_next hb D2.out))); (try (replace D3 := Go.Lib.hid (row_next hb D3.out))); (try (replace U := Go.Lib.hid (row_next hb U.out))); (try (replace V := Go.Lib.hid (row_next hb V.out))); replace P := Go.Lib.hid (row_next hb P.out); replace HP := Go.Lib.hid (HP.out.next hb); replace hB := Go.Lib.hid (below_next hB.out hb); replace E := Go.Lib.hid (E.out.next hb); clear hb)
      | (go_at_call 17; (refine (HZ'.out _).mono ?_); rintro o w1 ⟨rfl, hb⟩; (try (replace D1 := Go.Lib.hid (row_next hb D1.out))); (try (replace D2 := Go.Lib.hid (row_next hb D2.out))); (try (replace D3 := Go.Lib.hid (row_next hb D3.out))); (try (replace U := Go.Lib.hid (row_next hb U.out))); (try (replace V := Go.Lib.hid (row_next hb V.out))); replace P := Go.Lib.hid (row_next hb P.out); replace HP := Go.Lib.hid (HP.out.next hb); replace hB := Go.Lib.hid (below_next hB.out hb); replace E := Go.Lib.hid (E.out.next hb); clear hb)
      | (go_at_call 13; (refine (HT.out _).mono ?_); rintro o w1 ⟨rfl, hb⟩; (try (replace D1 := Go.Lib.hid (row_next hb D1.out))); (try (replace D2 := Go.Lib.hid (row_next hb D2.out))); (try (replace D3 := Go.Lib.hid (row_next hb D3.out))); (try (replace U := Go.Lib.hid (row_next hb U.out))); (try (replace V := Go.Lib.hid (row_next hb V.out))); replace P := Go.Lib.hid (row_next hb P.out); replace HP := Go.Lib.hid (HP.out.next hb); replace hB := Go.Lib.hid (below_next hB.out hb); replace E := Go.Lib.hid (E.out.next hb); clear hb)
      | (go_at_call 19; (refine (HC.out _ HP.out).mono ?_); rintro o w1 ⟨Dn, rfl, hD, _, hb⟩; (try (replace D1 := Go.Lib.hid (row_next hb D1.out))); (try (replace D2 := Go.Lib.hid (row_next hb D2.out))); (try (replace D3 := Go.Lib.hid (row_next hb D3.out))); (try (replace U := Go.Lib.hid (row_next hb U.out))); (try (replace V := Go.Lib.hid (row_next hb V.out))); (first | (replace F0 := F0.out; clear F0; have D1 := Go.Lib.hid hD) | (replace F1 := F1.out; clear F1; have D2 := Go.Lib.hid hD) | (have D3 := Go.Lib.hid hD)); clear hD; replace P := Go.Lib.hid (row_next hb P.out); replace HP := Go.Lib.hid (HP.out.next hb); replace hB := Go.Lib.hid (below_next hB.out hb); replace E := Go.Lib.hid (E.out.next hb); clear hb)
      | (go_at_call 18; (refine (HS.out _ _ D1.out).mono ?_); rintro o w1 ⟨rfl, hb⟩; (try (replace D1 := Go.Lib.hid (row_next hb D1.out))); (try (replace D2 := Go.Lib.hid (row_next hb D2.out))); (try (replace D3 := Go.Lib.hid (row_next hb D3.out))); (try (replace U := Go.Lib.hid (row_next hb U.out))); (try (replace V := Go.Lib.hid (row_next hb V.out))); replace P := Go.Lib.hid (row_next hb P.out); replace HP := Go.Lib.hid (HP.out.next hb); replace hB := Go.Lib.hid (below_next hB.out hb); replace E := Go.Lib.hid (E.out.next hb); clear hb; clear D1)
      | (go_at_call 20; (refine (HI.out _ _ E.out D2.out).mono ?_); rintro o w1 ⟨rfl, hb⟩; (try (replace D1 := Go.Lib.hid (row_next hb D1.out))); (try (replace D2 := Go.Lib.hid (row_next hb D2.out))); (try (replace D3 := Go.Lib.hid (row_next hb D3.out))); (try (replace U := Go.Lib.hid (row_next hb U.out))); (try (replace V := Go.Lib.hid (row_next hb V.out))); replace P := Go.Lib.hid (row_next hb P.out); replace HP := Go.Lib.hid (HP.out.next hb); replace hB := Go.Lib.hid (below_next hB.out hb); replace E := Go.Lib.hid (E.out.next hb); clear hb)
      | (go_at_call 21; (refine (HQ.out _ _ _ D2.out D3.out).mono ?_); rintro o w1 ⟨rfl, hb⟩; (try (replace D1 := Go.Lib.hid (row_next hb D1.out))); (try (replace D2 := Go.Lib.hid (row_next hb D2.out))); (try (replace D3 := Go.Lib.hid (row_next hb D3.out))); (try (replace U := Go.Lib.hid (row_next hb U.out))); (try (replace V := Go.Lib.hid (row_next hb V.out))); replace P := Go.Lib.hid (row_next hb P.out); replace HP := Go.Lib.hid (HP.out.next hb); replace hB := Go.Lib.hid (below_next hB.out hb); replace E := Go.Lib.hid (E.out.next hb); clear hb))
    go_ret
    exact ⟨rfl, hB.out⟩
  · have HZ' := Go.Lib.hid fun w => by have h := HZ.out w; rw [if_neg hn] at h; exact h
    clear HZ hS hI
    go_enter Tryd.func4, Tryd.ntmps4
    go_wp2_with (first
      | go_skip
      | (go_at_call 17; (refine (HZ'.out _).mono ?_); rintro o w1 ⟨rfl, hb⟩; (try (replace D1 := Go.Lib.hid (row_next hb D1.out))); (try (replace D2 := Go.Lib.hid (row_next hb D2.out))); (try (replace D3 := Go.Lib.hid (row_next hb D3.out))); (try (replace U := Go.Lib.hid (row_next hb U.out))); (try (replace V := Go.Lib.hid (row_next hb V.out))); replace P := Go.Lib.hid (row_next hb P.out); replace HP := Go.Lib.hid (HP.out.next hb); replace hB := Go.Lib.hid (below_next hB.out hb); replace E := Go.Lib.hid (E.out.next hb); clear hb))
    go_ret
    exact ⟨rfl, hB.out⟩
theorem fdR_row {w : World} {D n : Nat} {px : Nat → Int} {py : Nat → Bool} {pn : Nat → Int} (h : w.heap[D]? = some (.cells (vrow (n * 3) (fdf px py pn)) 38)) : FdR w (some ⟨D, 0, none⟩) n px py pn w.heap.size := fun _ =>
  ⟨D, n * 3, fdf px py pn, rfl, row_lt h, Nat.le_refl _, h, fun k _ => fdf_three px py pn k⟩
theorem first_no (f : Nat → Bool) : ∀ n, (∀ i, i < n → f i = true) ∨ ∃ q, q < n ∧ (∀ i, i < q → f i = true) ∧ f q = false
  | 0 => .inl fun i hi => absurd hi (by omega)
  | n + 1 => by
    rcases first_no f n with h | ⟨q, hq, h1, h2⟩
    · cases hf : f n
      · exact .inr ⟨n, by omega, h, hf⟩
      · exact .inl fun i hi => by
          by_cases e : i = n
          · rw [e]; exact hf
          · exact h i (by omega)
    · exact .inr ⟨q, by omega, h1, h2⟩
theorem pal_law (s : Sh) (ao : Option Addr) (n cap : Nat) (px : Nat → Int) (py : Nat → Bool) (pn : Nat → Int) (e : ErrE) (w : World) (hE : Errs e w) (hf : s.fit) (hm : n ≤ 9223372036854775807) (hpx : ∀ i, i < n → -128 ≤ px i ∧ px i ≤ 127) (hpn : ∀ i, i < n → -128 ≤ pn i ∧ pn i ≤ 127) (hp : FdsC w ao n px py pn) :
    Calls Tryd.prog 4 #[.agg s.row, .slice ao n cap] w fun o w' => o = .returned (.bool true) ∧ Below w.heap.size w w' := by
  cases ho : okI s
  · exact pal_walk s ao n cap px py pn Sh.zero 0 1 e w hE hm hp (fun _ D w hd => specPA_bad s _ n n px py pn w hf ho) (fun _ D w hE hd => implPA s _ n n px py pn Sh.zero 0 1 (errP e 1) e w hE (fdR_row hd) (fun W hE => ckF_bad s _ n n e W hE hf ho) (fun W hE _ _ _ => unl_pd_err _ 1 1 e W hE (fun w hE => codeOf_1 e w hE)))
  · by_cases hn : n ≤ 30
    · obtain ⟨a, c, ea, ec, ha, hc⟩ := fitW s ho
      rcases first_no (fun i => foldOk s (px i) (py i) (pn i)) n with hall | ⟨q, hq, hall, hno⟩
      · exact pal_walk s ao n cap px py pn _ _ 0 e w hE hm hp (fun _ D w hd => specPA_ok s _ n n px py pn w hf hpx hpn ho hn (fdR_row hd) a c (bdP_ok ho) ea ec ha hc hall) (fun _ D w hE hd => implPA s _ n n px py pn _ _ 0 .nilIface e w hE (fdR_row hd) (fun W hE => ckF_ok s _ n n e W hE hf ho hn) (fun W1 hE h1 h2 hF1 => unl_pd_ok w.heap.size (w.heap.size + 1) _ _ W1 (fun W2 hb2 => pac_ok s _ n n px py pn _ _ _ _ W2 (row_next hb2 h1) (row_next hb2 h2) ((hF1.next hb2).mono hb2.size) (fun W3 hF3 => pby_ok s a c _ n n px py pn W3 hf ho (bdP_ok ho) ea ec ha hc hn hF3 hall))))
      · exact pal_walk s ao n cap px py pn Sh.zero 0 2 e w hE hm hp (fun _ D w hd => specPA_rng s _ n n px py pn w hf hpx hpn ho hn (fdR_row hd) q hq hall hno) (fun _ D w hE hd => implPA s _ n n px py pn Sh.zero 0 2 .nilIface e w hE (fdR_row hd) (fun W hE => ckF_ok s _ n n e W hE hf ho hn) (fun W1 hE h1 h2 hF1 => unl_pd_catch w.heap.size (w.heap.size + 1) (px q) (py q) (pn q) e W1 hE (fun W2 hb2 => pac_bad s _ n n px py pn _ _ _ _ _ W2 (row_next hb2 h1) (row_next hb2 h2) ((hF1.next hb2).mono hb2.size) (fun W3 hF3 => pby_bad s a c _ n n px py pn W3 hf ho (bdP_ok ho) ea ec ha hc hn hF3 q hq hall hno))))
    · exact pal_walk s ao n cap px py pn Sh.zero 0 3 e w hE hm hp (fun _ D w hd => specPA_lim s _ n n px py pn w hf ho (by omega)) (fun _ D w hE hd => implPA s _ n n px py pn Sh.zero 0 3 (errP e 3) e w hE (fdR_row hd) (fun W hE => ckF_lim s _ n n e W hE hf ho (by omega)) (fun W hE _ _ _ => unl_pd_err _ 3 3 e W hE (fun w hE => codeOf_3 e w hE)))
end Go.Proofs.YtmcpaangofdmpaaDoor
