import Derived.Deep.RegionHeld3
import Derived.Test.YtfhfiaphdgfmnaaDoorLev
import Derived.Test.YtfhfiaphdgfmnaaDoorImplW
import Derived.Test.YtfhfiaphdgfmnaaDoorWater
import Derived.Test.YtfhfiaphdgfmnaaDoorDyP
namespace Go.Proofs.YtfhfiaphdgfmnaaDoor
open Go.RowKit
set_option maxRecDepth 100000
set_option linter.unusedVariables false
set_option linter.unusedSimpArgs false
theorem nan_any (x : Int) (w : World) : Calls Tryd.prog 99 #[.int .i64 x] w fun e w' => e = .returned (.bool false) ∧ Below w.heap.size w w' := by
  have h : (x == x) = true := by simp
  have h2 : (x != x) = false := by simp
  go_enter Tryd.func99, Tryd.ntmps99
  go_wp2
  go_ret
  exact ⟨rfl, Below.refl _ _⟩
def cmpV (x y : Int) : Int := if x < y then -1 else if y < x then 1 else 0
theorem cmpV_pos (x y : Int) : decide (0 < cmpV x y) = decide (y < x) := by
  unfold cmpV
  split
  · simp; omega
  · split
    · simp; omega
    · simp; omega
theorem cmp_any (x y : Int) (w : World) : Calls Tryd.prog 72 #[.int .i64 x, .int .i64 y] w fun e w' => e = .returned (.int .i64 (cmpV x y)) ∧ Below w.heap.size w w' := by
  have HN := Go.Lib.hid fun z w => nan_any z w
  have hB := Go.Lib.hid (Below.refl w.heap.size w)
  rcases Int.lt_trichotomy x y with h | h | h
  · have HV := Go.Lib.hid (show cmpV x y = -1 by unfold cmpV; rw [if_pos h])
    have h1 : decide (x < y) = true := by simpa using h
    go_enter Tryd.func72, Tryd.ntmps72
    go_wp2_with (first
      | go_skip
      | (go_at_call 99; (refine (HN.out _ _).mono ?_); rintro o w1 ⟨rfl, hb⟩; replace hB := Go.Lib.hid (below_next hB.out hb); clear hb))
    go_ret
    exact ⟨by rw [HV.out]; rfl, hB.out⟩
  · have HV := Go.Lib.hid (show cmpV x y = 0 by unfold cmpV; rw [if_neg (by omega), if_neg (by omega)])
    have h1 : decide (x < y) = false := by simp; omega
    have h2 : decide (y < x) = false := by simp; omega
    clear h
    go_enter Tryd.func72, Tryd.ntmps72
    go_wp2_with (first
      | go_skip
      | (go_at_call 99; (refine (HN.out _ _).mono ?_); rintro o w1 ⟨rfl, hb⟩; replace hB := Go.Lib.hid (below_next hB.out hb); clear hb))
    go_ret
    exact ⟨by rw [HV.out]; rfl, hB.out⟩
  · have HV := Go.Lib.hid (show cmpV x y = 1 by unfold cmpV; rw [if_neg (by omega), if_pos h])
    have h1 : decide (x < y) = false := by simp; omega
    have h2 : decide (y < x) = true := by simpa using h
    go_enter Tryd.func72, Tryd.ntmps72
    go_wp2_with (first
      | go_skip
      | (go_at_call 99; (refine (HN.out _ _).mono ?_); rintro o w1 ⟨rfl, hb⟩; replace hB := Go.Lib.hid (below_next hB.out hb); clear hb))
    go_ret
    exact ⟨by rw [HV.out]; rfl, hB.out⟩
theorem wat_any (s : Sh) (w : World) (hf : s.fit) (hv : okI s = true) : Calls Tryd.prog 73 #[.agg (vrow 266 s.at)] w fun e w' => e = .returned (.int .i64 (wsum s 64)) ∧ Below w.heap.size w w' := by
  have hb := hv
  simp only [okI, Bool.and_eq_true, decide_eq_true_eq] at hb
  obtain ⟨⟨h1, h2⟩, ⟨h3, h4⟩, _⟩ := hb
  have h := water_any s w hf h1 h2 h3 h4
  rwa [water_eq s hv] at h
set_option maxHeartbeats 4000000 in
theorem wc_any (s t : Sh) (i j : Nat) (w : World) (hs : s.fit) (ht : t.fit) (hvs : okI s = true) (hvt : okI t = true) : Calls Tryd.prog 71 #[.agg (vrow 267 (nm s i)), .agg (vrow 267 (nm t j))] w fun e w' => e = .returned (.int .i64 (cmpV (wsum s 64) (wsum t 64))) ∧ Below w.heap.size w w' := by
  have HS := Go.Lib.hid fun w => wat_any s w hs hvs
  have HT := Go.Lib.hid fun w => wat_any t w ht hvt
  have HCM := Go.Lib.hid fun w => cmp_any (wsum s 64) (wsum t 64) w
  generalize cmpV (wsum s 64) (wsum t 64) = z at *
  generalize wsum s 64 = x at *
  generalize wsum t 64 = y at *
  have P : Hid (((w.alloc (.cells (vrow 267 (nm s i)) 94)).alloc (.cells (vrow 267 (nm t j)) 94)).heap[w.heap.size]? = some (.cells (vrow 267 (nm s i)) 94)) := heap_past _ _ _ _ (by simp <;> omega) (heap_at _ _ _ (by simp))
  have R : Hid (((w.alloc (.cells (vrow 267 (nm s i)) 94)).alloc (.cells (vrow 267 (nm t j)) 94)).heap[w.heap.size + 1]? = some (.cells (vrow 267 (nm t j)) 94)) := heap_at _ _ _ (by simp)
  have hB : Hid (Below w.heap.size w ((w.alloc (.cells (vrow 267 (nm s i)) 94)).alloc (.cells (vrow 267 (nm t j)) 94))) := Go.Lib.hid (((Below.refl w.heap.size w).alloc (by simp <;> omega) _).alloc (by simp <;> omega) _)
  have HI := Go.Lib.hid (nm_sub s i); have HJ := Go.Lib.hid (nm_sub t j)
  clear hs ht hvs hvt
  go_enter Tryd.func71, Tryd.ntmps71
  go_wp2
  refine region_at (by kernel_rfl) (by kernel_rfl) ?_
  intro W hW
  rw [hW] at hB P R
  clear hW
  have P' := Go.Lib.hid (cls_row' P.out); have R' := Go.Lib.hid (cls_row' R.out)
  (first | go_big_quiet_skip | go_big_quiet_step (fail))
  (refine wpQuiet_loadmid 39 (.tmp 5) rfl (by first | exact want_n rfl | exact want_g _ _ _ rfl rfl rfl) (w.heap.size) 0 rfl 267 266 (nm s i) _ rw_sheet size_sheet P'.out (by omega) ?_; rw [HI.out]; simp only [Act.put, List.setIfInBounds_toArray, List.set_cons_succ, List.set_cons_zero])
  go_big_quiet_step ((go_at_call 73; exact cls_call _ (fun w hw => HS.out w)))
  (first | go_big_quiet_skip | go_big_quiet_step (fail))
  (refine wpQuiet_loadmid 39 (.tmp 8) rfl (by first | exact want_n rfl | exact want_g _ _ _ rfl rfl rfl) (w.heap.size + 1) 0 rfl 267 266 (nm t j) _ rw_sheet size_sheet R'.out (by omega) ?_; rw [HJ.out]; simp only [Act.put, List.setIfInBounds_toArray, List.set_cons_succ, List.set_cons_zero])
  go_big_quiet_step ((go_at_call 73; exact cls_call _ (fun w hw => HT.out w)))
  go_big_quiet_step ((go_at_call 72; exact cls_call _ (fun w hw => HCM.out w)))
  repeat (first | go_big_quiet_skip | go_big_quiet_step (fail))
  refine wpQuiet_nil ?_
  intro Wn hb
  replace hB := Go.Lib.hid (below_next hB.out hb)
  clear hb
  go_wp2
  go_ret
  exact ⟨rfl, hB.out⟩
/-- the first of the greatest, of k + 1 -/
def bestI (q : Nat → Int) : Nat → Nat
  | 0 => 0
  | k + 1 => if q (bestI q k) < q (k + 1) then k + 1 else bestI q k
theorem bestI_le (q : Nat → Int) : ∀ k, bestI q k ≤ k
  | 0 => Nat.le_refl _
  | k + 1 => by
    unfold bestI
    split
    · exact Nat.le_refl _
    · have := bestI_le q k; omega
theorem bestI_y {q : Nat → Int} {k : Nat} (h : q (bestI q k) < q (k + 1)) : bestI q (k + 1) = k + 1 := if_pos h
theorem bestI_n {q : Nat → Int} {k : Nat} (h : ¬q (bestI q k) < q (k + 1)) : bestI q (k + 1) = bestI q k := if_neg h
set_option maxHeartbeats 8000000 in
theorem mf_any (ss : Nat → Sh) (g n c N : Nat) (f : Nat → Value) (w : World) (h0 : 0 < n) (hn : n ≤ 6) (hN : n * 267 ≤ N) (hf : ∀ i, (ss i).fit) (ho : ∀ k, k < n → okI (ss k) = true) (hr : w.heap[g]? = some (.cells (vrow N f) 94)) (hx : ∀ k, k < n → ∀ j, j < 267 → f (k * 267 + j) = nm (ss k) k j) : Calls Tryd.prog 70 #[.slice (some ⟨g, 0, none⟩) n c, .func (.func 71) #[] #[]] w fun e w' => e = .returned (.agg (vrow 267 (nm (ss (bestI (fun k => wsum (ss k) 64) (n - 1))) (bestI (fun k => wsum (ss k) 64) (n - 1))))) ∧ Below w.heap.size w w' := by
  have HC := Go.Lib.hid fun a b w ha hb => wc_any (ss a) (ss b) a b w (hf a) (hf b) (ho a ha) (ho b hb)
  have HX := Go.Lib.hid fun k hk => (show vrow 267 (fun j => f (k * 267 + j)) = vrow 267 (nm (ss k) k) from vrow_ext _ _ _ fun j hj => hx k hk j hj)
  have H0 : Hid (vrow 267 (fun j => f (0 + j)) = vrow 267 (nm (ss 0) 0)) := Go.Lib.hid (by have h := HX.out 0 h0; rwa [Nat.zero_mul] at h)
  have hb0 : bestI (fun k => wsum (ss k) 64) 0 = 0 := rfl
  have hstep := Go.Lib.hid fun k => And.intro (@bestI_y (fun k => wsum (ss k) 64) k) (@bestI_n (fun k => wsum (ss k) 64) k)
  have hle := Go.Lib.hid (bestI_le (fun k => wsum (ss k) 64))
  have HQ := Go.Lib.hid fun a b => cmpV_pos (wsum (ss a) 64) (wsum (ss b) 64)
  generalize bestI (fun k => wsum (ss k) 64) = B at *
  have hgl := row_lt hr
  have zn := zero_nu
  have P : Hid ((w.alloc (.cells (vrow 267 (nm Sh.zero 0)) 94)).heap[g]? = some (.cells (vrow N f) 94)) := Go.Lib.hid (heap_past _ _ _ _ hgl hr)
  have Z : Hid ((w.alloc (.cells (vrow 267 (nm Sh.zero 0)) 94)).heap[w.heap.size]? = some (.cells (vrow 267 (nm Sh.zero 0)) 94)) := heap_at _ _ _ (by simp)
  have hB : Hid (Below w.heap.size w (w.alloc (.cells (vrow 267 (nm Sh.zero 0)) 94))) := Go.Lib.hid ((Below.refl w.heap.size w).alloc (by simp <;> omega) _)
  have h0I : (0 : Int) < (n : Int) := by omega
  have h1I : decide ((n : Int) < 1) = false := by simp; omega
  clear hr hx hf ho
  go_enter Tryd.func70, Tryd.ntmps70
  go_wp2_with (first
    | go_skip
    | ((with_reducible refine wlAt 13 rfl ?_); generalize w.alloc (.cells (vrow 267 (nm Sh.zero 0)) 94) = w1 at P Z hB ⊢; refine wpList_loadmid rfl 94 (.tmp 12) rfl g 0 rfl N 267 f 94 _ Tryd.underlying94 rfl size_nu P.out (by omega) ?_; rw [H0.out])
    | ((with_reducible refine wlOp (.store 94 (.tmp 5) (.tmp 13)) rfl ?_); refine wpList_storeall rfl 94 (.tmp 5) (.tmp 13) rfl _ rfl 267 (nm Sh.zero 0) (nm (ss 0) 0) rfl 94 size_nu (heap_at _ _ _ rfl) (fun i _ => nm_one _ _ i) ?_; rw [setRow_at _ _ _ _ _ rfl]; have M := Go.Lib.hid (heap_at w1 (.cells (vrow 267 (nm (ss 0) 0)) 94) _ rfl); have nP := row_lt P.out; have nZ := row_lt Z.out; replace P := Go.Lib.hid (heap_past _ (.cells (vrow 267 (nm (ss 0) 0)) 94) _ _ nP P.out); replace Z := Go.Lib.hid (heap_past _ (.cells (vrow 267 (nm (ss 0) 0)) 94) _ _ nZ Z.out); have hsm := hB.out.size; replace hB := Go.Lib.hid (hB.out.alloc hB.out.size (.cells (vrow 267 (nm (ss 0) 0)) 94)); generalize w1.heap.size = mb at M nP nZ hsm ⊢; generalize w1.alloc _ = w1x at M P Z hB ⊢))
  have p1 := P.out; have z1 := Z.out; have m1 := M.out; have b1 := hB.out
  rw [show nm (ss 0) 0 = nm (ss (B 0)) (B 0) by rw [hb0]] at m1
  clear P Z M hB hb0 H0
  go_loopw [6] (fun iv wr => ∃ k : Nat, 1 ≤ k ∧ k ≤ n ∧ iv = .int .i64 k ∧ wr.heap[g]? = some (.cells (vrow N f) 94) ∧ wr.heap[w.heap.size]? = some (.cells (vrow 267 (nm Sh.zero 0)) 94) ∧ wr.heap[mb]? = some (.cells (vrow 267 (nm (ss (B (k - 1))) (B (k - 1)))) 94) ∧ Below w.heap.size w wr) (fun iv _ => 8 - (intOf iv).toNat)
  case atStart => exact ⟨1, by omega, by omega, rfl, p1, z1, m1, b1⟩
  case round =>
    clear p1 z1 m1 b1
    obtain ⟨k, hk1, hk, rfl, P, Z, M, hB⟩ := hrel
    have hle1 := hle.out (k - 1)
    have hkk : k - 1 + 1 = k := by omega
    by_cases hlt : k < n
    · have hkI : (k : Int) < (n : Int) := by omega
      have hk0 : (0 : Int) ≤ (k : Int) := by omega
      have hnl : (n : Int) ≤ 6 := by omega
      have HXk := Go.Lib.hid (HX.out k hlt)
      have HK := Go.Lib.hid fun w => HC.out k (B (k - 1)) w hlt (by omega)
      have hpos := HQ.out k (B (k - 1))
      have hst := hstep.out (k - 1)
      rw [hkk] at hst
      generalize cmpV (wsum (ss k) 64) (wsum (ss (B (k - 1))) 64) = z at HK hpos
      have hkp : k + 1 - 1 = k := by omega
      have HBK := Go.Lib.hid hkp
      replace hst := Go.Lib.hid hst
      have hkI2 : (k : Int) ≤ 6 := by omega
      clear hkk hkp
      by_cases hq : wsum (ss (B (k - 1))) 64 < wsum (ss k) 64
      · have hbk := Go.Lib.hid (hst.out.1 hq)
        rw [show decide (wsum (ss (B (k - 1))) 64 < wsum (ss k) 64) = true by simpa using hq] at hpos
        have hpos2 : decide (z > 0) = true := hpos
        clear hq
        generalize B (k - 1) = p at M HK
        replace P := Go.Lib.hid P; replace Z := Go.Lib.hid Z; replace M := Go.Lib.hid M; replace hB := Go.Lib.hid hB
        go_wp2
        refine wp_region_still_tail 6 (by kernel_rfl) (by kernel_rfl) ?_
        simp only [List.take_succ_cons, List.take_zero, List.drop_succ_cons, List.drop_zero, World.drew_eq]
        repeat (first
          | (refine wpStill_loadmid rfl 94 (.tmp 23) rfl g (k * 267) rfl N 267 f 94 _ Tryd.underlying94 rfl size_nu P.out (by omega) ?_; rw [HXk.out]; (try simp only [Act.put, List.setIfInBounds_toArray, List.set_cons_succ, List.set_cons_zero]))
          | (refine wpStill_loadmid rfl 94 (.tmp 5) rfl mb 0 rfl 267 267 (nm (ss p) p) 94 _ Tryd.underlying94 rfl size_nu M.out (by omega) ?_; simp only [Nat.zero_add]; (try simp only [Act.put, List.setIfInBounds_toArray, List.set_cons_succ, List.set_cons_zero]))
          | still_step)
        refine wpStill_nil ?_
        replace P := Go.Lib.hid (drwD P.out); replace Z := Go.Lib.hid (drwD Z.out); replace M := Go.Lib.hid (drwD M.out); replace hB := Go.Lib.hid (hB.out.drew)
        generalize World.drew _ = W2 at P Z M hB ⊢
        have nP2 := row_lt P.out
        go_wp2_with (first
          | go_skip
          | (go_at_call 71; (refine (HK.out _).mono ?_); rintro o w5 ⟨rfl, hb⟩; replace P := Go.Lib.hid (row_next hb P.out); replace Z := Go.Lib.hid (row_next hb Z.out); replace M := Go.Lib.hid (row_next hb M.out); replace hB := Go.Lib.hid (below_next hB.out hb); clear hb)
          | ((with_reducible refine wlAt 31 rfl ?_); refine wpList_loadmid rfl 94 (.tmp 30) rfl g (k * 267) rfl N 267 f 94 _ Tryd.underlying94 rfl size_nu P.out (by omega) ?_; rw [HXk.out])
          | ((with_reducible refine wlOp (.store 94 (.tmp 5) (.tmp 31)) rfl ?_); refine wpList_storeall rfl 94 (.tmp 5) (.tmp 31) rfl mb rfl 267 (nm (ss p) p) (nm (ss k) k) rfl 94 size_nu M.out (fun i _ => nm_one _ _ i) ?_; replace P := Go.Lib.hid (row_set' (g := mb) (show g ≠ mb by omega) P.out (vrow 267 (nm (ss k) k))); replace Z := Go.Lib.hid (row_set' (g := mb) (show w.heap.size ≠ mb by omega) Z.out (vrow 267 (nm (ss k) k))); replace M := Go.Lib.hid (row_set M.out (vrow 267 (nm (ss k) k))); replace hB := Go.Lib.hid (Below_setRow hB.out hsm (vrow 267 (nm (ss k) k)))))
        go_roundw
        case rel => exact ⟨k + 1, by omega, by omega, by go_num, P.out, Z.out, by rw [HBK.out, hbk.out]; exact M.out, hB.out⟩
        case measure => simp [intOf]; omega
      · have hbk := Go.Lib.hid (hst.out.2 (by first | exact hq | exact Int.not_lt.1 hq))
        rw [show decide (wsum (ss (B (k - 1))) 64 < wsum (ss k) 64) = false by simpa using hq] at hpos
        have hpos2 : decide (z > 0) = false := hpos
        clear hq
        generalize B (k - 1) = p at M HK hbk
        replace P := Go.Lib.hid P; replace Z := Go.Lib.hid Z; replace M := Go.Lib.hid M; replace hB := Go.Lib.hid hB
        go_wp2
        refine wp_region_still_tail 6 (by kernel_rfl) (by kernel_rfl) ?_
        simp only [List.take_succ_cons, List.take_zero, List.drop_succ_cons, List.drop_zero, World.drew_eq]
        repeat (first
          | (refine wpStill_loadmid rfl 94 (.tmp 23) rfl g (k * 267) rfl N 267 f 94 _ Tryd.underlying94 rfl size_nu P.out (by omega) ?_; rw [HXk.out]; (try simp only [Act.put, List.setIfInBounds_toArray, List.set_cons_succ, List.set_cons_zero]))
          | (refine wpStill_loadmid rfl 94 (.tmp 5) rfl mb 0 rfl 267 267 (nm (ss p) p) 94 _ Tryd.underlying94 rfl size_nu M.out (by omega) ?_; simp only [Nat.zero_add]; (try simp only [Act.put, List.setIfInBounds_toArray, List.set_cons_succ, List.set_cons_zero]))
          | still_step)
        refine wpStill_nil ?_
        replace P := Go.Lib.hid (drwD P.out); replace Z := Go.Lib.hid (drwD Z.out); replace M := Go.Lib.hid (drwD M.out); replace hB := Go.Lib.hid (hB.out.drew)
        generalize World.drew _ = W2 at P Z M hB ⊢
        go_wp2_with (first
          | go_skip
          | (go_at_call 71; (refine (HK.out _).mono ?_); rintro o w5 ⟨rfl, hb⟩; replace P := Go.Lib.hid (row_next hb P.out); replace Z := Go.Lib.hid (row_next hb Z.out); replace M := Go.Lib.hid (row_next hb M.out); replace hB := Go.Lib.hid (below_next hB.out hb); clear hb))
        go_roundw
        case rel => exact ⟨k + 1, by omega, by omega, by go_num, P.out, Z.out, by rw [HBK.out, hbk.out]; exact M.out, hB.out⟩
        case measure => simp [intOf]; omega
    · obtain rfl : k = n := by omega
      have hd : decide ((k : Int) < (k : Int)) = false := by simp
      obtain ⟨p, hp⟩ : ∃ p, B (k - 1) = p := ⟨_, rfl⟩
      rw [hp] at M
      have HPP := Go.Lib.hid hp
      clear hp
      replace P := Go.Lib.hid P; replace Z := Go.Lib.hid Z; replace M := Go.Lib.hid M; replace hB := Go.Lib.hid hB
      go_wp2_with (first
        | go_skip
        | ((with_reducible refine wlAt 32 rfl ?_); refine wpList_loadall rfl 94 (.tmp 5) rfl mb rfl 267 (nm (ss p) p) 94 _ Tryd.underlying94 rfl size_nu M.out ?_)
        | ((with_reducible refine wlOp (.store 94 (.tmp 4) (.tmp 32)) rfl ?_); refine wpList_storeall rfl 94 (.tmp 4) (.tmp 32) rfl w.heap.size rfl 267 (nm Sh.zero 0) (nm (ss p) p) rfl 94 size_nu Z.out (fun i _ => nm_one _ _ i) ?_; replace Z := Go.Lib.hid (row_set Z.out (vrow 267 (nm (ss p) p))); replace hB := Go.Lib.hid (Below_setRow hB.out (Nat.le_refl _) (vrow 267 (nm (ss p) p)))))
      refine ret_row Tryd.results70 w.heap.size 267 (nm (ss p) p) 94 _ Tryd.underlying94 rfl size_nu rfl rfl Z.out ?_
      exact ⟨by rw [HPP.out], hB.out⟩
end Go.Proofs.YtfhfiaphdgfmnaaDoor
