import Derived.Deep.RegionHeld3
import Derived.Test.YtfhfiaphdgfmnaaDoorDyO
import Derived.Test.YtfhfiaphdgfmnaaDoorSkX
import Derived.Test.YtfhfiaphdgfmnaaDoorI64K
import Derived.Test.YtfhfiaphdgfmnaaDoorG1
namespace Go.Proofs.YtfhfiaphdgfmnaaDoor
open Go.RowKit
set_option maxRecDepth 100000
set_option linter.unusedVariables false
set_option linter.unusedSimpArgs false
theorem own_monoK {W : World} {base base' size n : Nat} {t : TypeId} {v : Value} {xs : List Value} (hb : base' ≤ base) (h : W.ownsRow base t size v n xs) : W.ownsRow base' t size v n xs :=
  ⟨h.1, h.2.imp id (fun ⟨g, cap, cur, hv, hg, r⟩ => ⟨g, cap, cur, hv, Nat.le_trans hb hg, r⟩)⟩
theorem prwK_i64 : (Tryd.prog.underlying 2).map (·.isRow) = some false := by kernel_rfl
theorem sumK_iv (s : Sh) : vrow 3 (sumsF s 64 0) = vrow 3 (ivF fun i => isum s i 64) := vrow_ext _ _ _ fun m hm => by unfold sumsF ivF; rw [if_neg (by omega)]
theorem lsumR_any (ss : Nat → Sh) (D n k : Nat) (w : World) (hk : k < n) (hf : ∀ i, (ss i).fit) (h1 : w.heap[D]? = some (.cells (vrow (n * 266) (stF ss)) 39)) : Calls Tryd.prog 58 #[.pointer (some ⟨D, k * 266, none⟩)] w fun e w' => e = .returned (.agg (vrow 3 (ivF fun i => isum (ss k) i 64))) ∧ Below w.heap.size w w' := by
  have h := lsums_anyO (ss k) D (k * 266) (n * 266) (stF ss) (by omega) (stF_sub ss k) w h1 (hf k)
  rwa [sumK_iv] at h
theorem inkK_yes (k : Int) (h : 0 ≤ k ∧ k < 3) (w : World) : Calls Tryd.prog 61 #[.int .i64 k] w fun e w' => e = .returned (.bool true) ∧ Below w.heap.size w w' := by
  have hB := Go.Lib.hid (Below.refl w.heap.size w)
  have HI := Go.Lib.hid fun w => in_yes k 0 2 (by omega) (by omega) w
  clear h
  go_enter Tryd.func61, Tryd.ntmps61
  go_wp2_with (first
    | go_skip
    | (go_at_call 40; ((refine (HI.out _).mono ?_); rintro e w1 ⟨rfl, hb⟩; replace hB := Go.Lib.hid (below_next hB.out hb); clear hb)))
  go_ret
  exact ⟨rfl, hB.out⟩
theorem inkK_no (k : Int) (h : k < 0 ∨ 3 ≤ k) (w : World) : Calls Tryd.prog 61 #[.int .i64 k] w fun e w' => e = .returned (.bool false) ∧ Below w.heap.size w w' := by
  have hB := Go.Lib.hid (Below.refl w.heap.size w)
  have HI := Go.Lib.hid fun w => in_no k 0 2 (by omega) w
  clear h
  go_enter Tryd.func61, Tryd.ntmps61
  go_wp2_with (first
    | go_skip
    | (go_at_call 40; ((refine (HI.out _).mono ?_); rintro e w1 ⟨rfl, hb⟩; replace hB := Go.Lib.hid (below_next hB.out hb); clear hb)))
  go_ret
  exact ⟨rfl, hB.out⟩
/-- the sheets below k that a dye reached -/
def rchT (ss : Nat → Sh) (q k : Nat) : List Nat := (List.range k).filter fun i => decide (0 < isum (ss i) q 64)
theorem rchT_step (ss : Nat → Sh) (q k : Nat) : rchT ss q (k + 1) = rchT ss q k ++ if decide (0 < isum (ss k) q 64) then [k] else [] := by
  unfold rchT
  rw [List.range_succ, List.filter_append]
  congr 1
  cases h : decide (0 < isum (ss k) q 64) <;> simp [List.filter_cons, h]
theorem rchT_len (ss : Nat → Sh) (q k : Nat) : (rchT ss q k).length ≤ k := by
  unfold rchT
  exact Nat.le_trans (List.length_filter_le _ _) (by simp)
set_option maxHeartbeats 4000000 in
theorem lrb_bad (ss : Nat → Sh) (D n cp : Nat) (q : Int) (px : Nat → Int) (w : World) (hn : n ≤ 1048576) (hf : ∀ i, (ss i).fit) (ho : stOk ss n = false) (h1 : w.heap[D]? = some (.cells (vrow (n * 266) (stF ss)) 39)) : Calls Tryd.prog 27 #[.slice (some ⟨D, 0, none⟩) n cp, .int .i64 q] w fun e w' => ∃ v, e = .returned (.tuple #[v, .int .i64 1]) ∧ SlI w' v 0 px w'.heap.size ∧ Below w.heap.size w w' := by
  have HO0 := fun w h => lok5_any ss D n cp w hn hf h
  rw [ho] at HO0
  have HO := Go.Lib.hid HO0
  clear HO0 hf ho
  have P : Hid ((w.alloc (.cells #[] 2)).heap[D]? = some (.cells (vrow (n * 266) (stF ss)) 39)) := Go.Lib.hid (heap_past _ _ _ _ (row_lt h1) h1)
  have hB : Hid (Below w.heap.size w (w.alloc (.cells #[] 2))) := Go.Lib.hid ((Below.refl w.heap.size w).alloc (Nat.le_refl _) _)
  clear h1
  go_enter Tryd.func27, Tryd.ntmps27
  go_wp2_with (first
    | go_skip
    | (go_at_call 38; (refine (HO.out _ P.out).mono ?_); rintro o w2 ⟨rfl, hb⟩; replace P := Go.Lib.hid (row_next hb P.out); replace hB := Go.Lib.hid (below_next hB.out hb); clear hb))
  go_ret2
  exact ⟨_, rfl, ⟨_, _, rfl, fun h => absurd h (by omega)⟩, hB.out⟩
set_option maxHeartbeats 4000000 in
theorem lrb_ink (ss : Nat → Sh) (D n cp : Nat) (q : Int) (px : Nat → Int) (w : World) (hn : n ≤ 1048576) (hf : ∀ i, (ss i).fit) (ho : stOk ss n = true) (hq : q < 0 ∨ 3 ≤ q) (h1 : w.heap[D]? = some (.cells (vrow (n * 266) (stF ss)) 39)) : Calls Tryd.prog 27 #[.slice (some ⟨D, 0, none⟩) n cp, .int .i64 q] w fun e w' => ∃ v, e = .returned (.tuple #[v, .int .i64 2]) ∧ SlI w' v 0 px w'.heap.size ∧ Below w.heap.size w w' := by
  have HO0 := fun w h => lok5_any ss D n cp w hn hf h
  rw [ho] at HO0
  have HO := Go.Lib.hid HO0
  have HK := Go.Lib.hid fun w => inkK_no q hq w
  clear HO0 hf ho hq
  have P : Hid ((w.alloc (.cells #[] 2)).heap[D]? = some (.cells (vrow (n * 266) (stF ss)) 39)) := Go.Lib.hid (heap_past _ _ _ _ (row_lt h1) h1)
  have hB : Hid (Below w.heap.size w (w.alloc (.cells #[] 2))) := Go.Lib.hid ((Below.refl w.heap.size w).alloc (Nat.le_refl _) _)
  clear h1
  go_enter Tryd.func27, Tryd.ntmps27
  go_wp2_with (first
    | go_skip
    | (go_at_call 38; (refine (HO.out _ P.out).mono ?_); rintro o w2 ⟨rfl, hb⟩; replace P := Go.Lib.hid (row_next hb P.out); replace hB := Go.Lib.hid (below_next hB.out hb); clear hb)
    | (go_at_call 61; (refine (HK.out _).mono ?_); rintro o w3 ⟨rfl, hb⟩; replace P := Go.Lib.hid (row_next hb P.out); replace hB := Go.Lib.hid (below_next hB.out hb); clear hb))
  go_ret2
  exact ⟨_, rfl, ⟨_, _, rfl, fun h => absurd h (by omega)⟩, hB.out⟩
set_option maxHeartbeats 4000000 in
theorem lrb_ok (ss : Nat → Sh) (D n cp q : Nat) (w : World) (hn : n ≤ 1048576) (hf : ∀ i, (ss i).fit) (ho : stOk ss n = true) (hq : q < 3) (h1 : w.heap[D]? = some (.cells (vrow (n * 266) (stF ss)) 39)) : Calls Tryd.prog 27 #[.slice (some ⟨D, 0, none⟩) n cp, .int .i64 q] w fun e w' => ∃ v, e = .returned (.tuple #[v, .int .i64 0]) ∧ w'.ownsRow w.heap.size 2 1 v (rchT ss q n).length (ivals (rchT ss q n)) ∧ Below w.heap.size w w' := by
  obtain ⟨i0, hi, hz0, hz1, hz2⟩ := info_partsK info_i64
  have HO0 := fun w h => lok5_any ss D n cp w hn hf h
  rw [ho] at HO0
  have HO := Go.Lib.hid HO0
  have HSM := Go.Lib.hid fun k w hk h => lsumR_any ss D n k w hk hf h
  have HK := Go.Lib.hid fun w => inkK_yes (q : Int) (by omega) w
  clear HO0 hf ho
  have za := zero_i3
  have hD := row_lt h1
  have O : Hid ((w.alloc (.cells #[] 2)).ownsRow w.heap.size 2 1 (.slice (some ⟨w.heap.size, 0, none⟩) 0 0) 0 []) := Go.Lib.hid (World.ownsRow_made w #[] 0 (Nat.le_refl _) (by decide) rfl)
  have P : Hid ((w.alloc (.cells #[] 2)).heap[D]? = some (.cells (vrow (n * 266) (stF ss)) 39)) := Go.Lib.hid (heap_past _ _ _ _ (row_lt h1) h1)
  have hB : Hid (Below w.heap.size w (w.alloc (.cells #[] 2))) := Go.Lib.hid ((Below.refl w.heap.size w).alloc (Nat.le_refl _) _)
  clear h1
  go_enter Tryd.func27, Tryd.ntmps27
  go_wp2_with (first
    | go_skip
    | (go_at_call 38; (refine (HO.out _ P.out).mono ?_); rintro o w2 ⟨rfl, hb⟩; replace P := Go.Lib.hid (row_next hb P.out); replace O := Go.Lib.hid (O.out.kept (grown_next (grown_refl _ none) hb) (by cases hv : Value.ownBlock _ <;> simp)); replace hB := Go.Lib.hid (below_next hB.out hb); clear hb)
    | (go_at_call 61; (refine (HK.out _).mono ?_); rintro o w3 ⟨rfl, hb⟩; replace P := Go.Lib.hid (row_next hb P.out); replace O := Go.Lib.hid (O.out.kept (grown_next (grown_refl _ none) hb) (by cases hv : Value.ownBlock _ <;> simp)); replace hB := Go.Lib.hid (below_next hB.out hb); clear hb))
  have p1 := P.out; have o1 := O.out; have b1 := hB.out
  clear P O hB HO HK
  go_loopw [6, 7] (fun v iv wr => ∃ k : Nat, k ≤ n ∧ iv = .int .i64 k ∧ wr.ownsRow w.heap.size 2 1 v (rchT ss q k).length (ivals (rchT ss q k)) ∧ wr.heap[D]? = some (.cells (vrow (n * 266) (stF ss)) 39) ∧ Below w.heap.size w wr) (fun _ iv _ => n - (intOf iv).toNat)
  case atStart => exact ⟨0, by omega, rfl, by simpa [rchT, ivals] using o1, p1, b1⟩
  case round =>
    clear p1 o1 b1
    obtain ⟨k, hk, rfl, O, P, hB⟩ := hrel
    by_cases hlt : k < n
    · have hst := rchT_step ss q k
      have hle := rchT_len ss q k
      have HS := Go.Lib.hid fun w h => HSM.out k w hlt h
      have HX := Go.Lib.hid (show ivF (fun i => isum (ss k) i 64) q = .int .i64 (isum (ss k) q 64) from rfl)
      have HST := Go.Lib.hid hst
      clear hst
      generalize isum (ss k) q 64 = N at HX HST
      generalize (fun i => isum (ss k) i 64) = g at HS HX
      generalize rchT ss q k = M at *
      replace P := Go.Lib.hid P; replace O := Go.Lib.hid O; replace hB := Go.Lib.hid hB
      have hkI : (k : Int) < (n : Int) := by omega
      have hnl : (n : Int) ≤ 1048576 := by omega
      have hqI2 : (q : Int) < 3 := by omega
      have hq0 : (0 : Int) ≤ (q : Int) := by omega
      cases hq : decide (0 < N)
      · have hqI : decide ((0 : Int) < N) = false := hq
        have HS2 := Go.Lib.hid (show rchT ss q (k + 1) = M by rw [HST.out, hq, if_neg (by simp), List.append_nil])
        go_wp2_with (first
          | go_skip
          | (go_at_call 58; (refine (HS.out _ P.out).mono ?_); rintro o w2 ⟨rfl, hb⟩; replace P := Go.Lib.hid (row_next hb P.out); replace O := Go.Lib.hid (O.out.kept (grown_next (grown_refl _ none) hb) (by cases hv : Value.ownBlock _ <;> simp)); replace hB := Go.Lib.hid (below_next hB.out hb); clear hb)
          | ((with_reducible refine wlOp (.store 50 (.tmp 8) (.tmp 27)) rfl ?_); refine wpList_storeall rfl 50 (.tmp 8) (.tmp 27) rfl _ rfl 3 (fun _ => .int .i64 0) (ivF g) rfl 50 size_i3 (heap_at _ _ _ rfl) (fun i _ => iv_one _ i) ?_; rw [setRow_at _ _ _ _ _ rfl]; have X := Go.Lib.hid (heap_at w2 (.cells (vrow 3 (ivF g)) 50) _ rfl); have nP := row_lt P.out; replace P := Go.Lib.hid (heap_past _ (.cells (vrow 3 (ivF g)) 50) _ _ nP P.out); clear nP; replace O := Go.Lib.hid (O.out.alloc (.cells (vrow 3 (ivF g)) 50)); replace hB := Go.Lib.hid (hB.out.alloc hB.out.size (.cells (vrow 3 (ivF g)) 50)); generalize w2.heap.size = xb at X ⊢; generalize w2.alloc _ = wx at X P O hB ⊢)
          | ((with_reducible refine wlAt 30 rfl ?_); refine wpList_ld1 2 _ rfl (by first | exact want_n rfl | exact want_g _ _ _ rfl rfl rfl) xb q rfl 3 (ivF g) _ prwK_i64 X.out (by omega) ?_; rw [HX.out]; clear X))
        go_roundw
        case rel => exact ⟨k + 1, by omega, by go_num, by rw [HS2.out]; exact O.out, P.out, hB.out⟩
        case measure => simp [intOf]; omega
      · have hqI : decide ((0 : Int) < N) = true := hq
        have HS2 := Go.Lib.hid (show rchT ss q (k + 1) = M ++ [k] by rw [HST.out, hq, if_pos rfl])
        go_wp2_with (first
          | go_skip
          | (go_at_call 58; (refine (HS.out _ P.out).mono ?_); rintro o w2 ⟨rfl, hb⟩; replace P := Go.Lib.hid (row_next hb P.out); replace O := Go.Lib.hid (O.out.kept (grown_next (grown_refl _ none) hb) (by cases hv : Value.ownBlock _ <;> simp)); replace hB := Go.Lib.hid (below_next hB.out hb); clear hb)
          | ((with_reducible refine wlOp (.store 50 (.tmp 8) (.tmp 27)) rfl ?_); refine wpList_storeall rfl 50 (.tmp 8) (.tmp 27) rfl _ rfl 3 (fun _ => .int .i64 0) (ivF g) rfl 50 size_i3 (heap_at _ _ _ rfl) (fun i _ => iv_one _ i) ?_; rw [setRow_at _ _ _ _ _ rfl]; have X := Go.Lib.hid (heap_at w2 (.cells (vrow 3 (ivF g)) 50) _ rfl); have nP := row_lt P.out; replace P := Go.Lib.hid (heap_past _ (.cells (vrow 3 (ivF g)) 50) _ _ nP P.out); clear nP; replace O := Go.Lib.hid (O.out.alloc (.cells (vrow 3 (ivF g)) 50)); replace hB := Go.Lib.hid (hB.out.alloc hB.out.size (.cells (vrow 3 (ivF g)) 50)); generalize w2.heap.size = xb at X ⊢; generalize w2.alloc _ = wx at X P O hB ⊢)
          | ((with_reducible refine wlAt 30 rfl ?_); refine wpList_ld1 2 _ rfl (by first | exact want_n rfl | exact want_g _ _ _ rfl rfl rfl) xb q rfl 3 (ivF g) _ prwK_i64 X.out (by omega) ?_; rw [HX.out]; clear X)
          | (at_builtin; refine wpList_append_own _ rfl (.tmp 32) (.tmp 34) 54 rfl w.heap.size 2 i0 (.int .i64 0) 1 8 Tryd.underlying54 hi hz0 hz1 hz2 rfl (by decide) _ _ _ rfl (O.out.alloc _) ⟨wx.heap.size, 0, none⟩ 1 1 [.int .i64 k] rfl rfl (World.news_of_block (heap_at _ _ _ rfl)) (by simp [Value.oneCell']) (by simp only [maxLen]; omega) (by omega) (by have := hB.out.size; simp; omega) ?_; intro v' w4 hown' hgrow _))
        have hov := O.out.lt
        have lp := row_lt P.out; have lb := hB.out.size
        have P1 : w4.heap[D]? = some (.cells (vrow (n * 266) (stF ss)) 39) := (hgrow.block _ (by simp; omega) (fun e => by have := (hov _ e.symm).1; omega)).trans (heap_past _ _ _ _ lp P.out)
        have B1 : Below w.heap.size w w4 := (hB.out.alloc hB.out.size _).grown hgrow (by simp; omega) (fun q hq => (hov q hq).1)
        go_roundw
        case rel => exact ⟨k + 1, by omega, by go_num, by rw [HS2.out, List.length_append, ivals_app]; exact hown', P1, B1⟩
        case measure => simp [intOf]; omega
    · obtain rfl : k = n := by omega
      have hd : decide ((k : Int) < (k : Int)) = false := by simp
      replace O := Go.Lib.hid O; replace hB := Go.Lib.hid hB
      go_wp2
      go_ret2
      exact ⟨_, rfl, O.out, hB.out⟩
end Go.Proofs.YtfhfiaphdgfmnaaDoor
