import Derived.Deep.RegionHeld3
import Derived.Test.YtfhfiaphdgfmnaaDoorDyK
namespace Go.Proofs.YtfhfiaphdgfmnaaDoor
open Go.RowKit
set_option maxRecDepth 100000
set_option linter.unusedVariables false
set_option linter.unusedSimpArgs false
theorem ckSt_bad (ss : Nat → Sh) (D n cp : Nat) (e : ErrE) (w : World) (hE : Errs e w) (hn : n ≤ 1048576) (hf : ∀ i, (ss i).fit) (ho : stOk ss n = false) (h1 : w.heap[D]? = some (.cells (vrow (n * 266) (stF ss)) 39)) : Calls Tryd.prog 55 #[.slice (some ⟨D, 0, none⟩) n cp] w fun o w' => o = .returned (errP e 1) ∧ Below w.heap.size w w' := by
  have HV0 := ivk_any ss D n cp w hn hf h1
  rw [ho] at HV0
  have HV := Go.Lib.hid HV0
  have E := Go.Lib.hid hE
  have hB := Go.Lib.hid (Below.refl w.heap.size w)
  clear HV0 h1 ho hf
  go_enter Tryd.func55, Tryd.ntmps55
  go_wp2_with (first
    | go_skip
    | (refine wpList_ld1 73 _ rfl (by first | exact want_n rfl | exact want_g _ _ _ rfl rfl rfl) 0 0 rfl 1 (fun _ => errP e 1) _ rw_err E.out.v1 (by omega) ?_)
    | (go_at_call 80; (refine HV.out.mono ?_); rintro o w1 ⟨rfl, hb⟩; replace hB := Go.Lib.hid (below_next hB.out hb); replace E := Go.Lib.hid (E.out.next hb); clear hb))
  go_ret
  exact ⟨rfl, hB.out⟩
theorem ckSt_ok (ss : Nat → Sh) (D n cp : Nat) (e : ErrE) (w : World) (hE : Errs e w) (hn : n ≤ 1048576) (hf : ∀ i, (ss i).fit) (ho : stOk ss n = true) (h1 : w.heap[D]? = some (.cells (vrow (n * 266) (stF ss)) 39)) : Calls Tryd.prog 55 #[.slice (some ⟨D, 0, none⟩) n cp] w fun o w' => o = .returned (.nilIface) ∧ Below w.heap.size w w' := by
  have HV0 := ivk_any ss D n cp w hn hf h1
  rw [ho] at HV0
  have HV := Go.Lib.hid HV0
  have E := Go.Lib.hid hE
  have hB := Go.Lib.hid (Below.refl w.heap.size w)
  clear HV0 h1 ho hf
  go_enter Tryd.func55, Tryd.ntmps55
  go_wp2_with (first
    | go_skip
    | (refine wpList_ld1 73 _ rfl (by first | exact want_n rfl | exact want_g _ _ _ rfl rfl rfl) 0 0 rfl 1 (fun _ => errP e 1) _ rw_err E.out.v1 (by omega) ?_)
    | (go_at_call 80; (refine HV.out.mono ?_); rintro o w1 ⟨rfl, hb⟩; replace hB := Go.Lib.hid (below_next hB.out hb); replace E := Go.Lib.hid (E.out.next hb); clear hb))
  go_ret
  exact ⟨rfl, hB.out⟩
set_option maxHeartbeats 4000000 in
theorem sdy_any (ss : Nat → Sh) (D n cp : Nat) (w : World) (h6 : n ≤ 6) (hf : ∀ i, (ss i).fit) (ho : ∀ k, k < n → okI (ss k) = true) (h1 : w.heap[D]? = some (.cells (vrow (n * 266) (stF ss)) 39)) : Calls Tryd.prog 60 #[.slice (some ⟨D, 0, none⟩) n cp] w fun e w' => e = .returned (.agg (vrow 3 (ivF (totN ss n)))) ∧ Below w.heap.size w w' := by
  have HDY := Go.Lib.hid fun k w hk => (show Calls Tryd.prog 64 #[.agg (vrow 266 (ss k).at)] w fun o w' => o = .returned (.agg (vrow 3 (ivF fun i => isum (ss k) i 64))) ∧ Below w.heap.size w w' from by have h := dyes_any (ss k) w (hf k) (ho k hk); rwa [sum_iv] at h)
  have HAD := Go.Lib.hid fun k b w hk h => (show Calls Tryd.prog 94 #[.pointer (some ⟨b, 0, none⟩), .agg (vrow 3 (ivF fun i => isum (ss k) i 64))] w fun e w' => (∃ r, e = .returned r) ∧ w.grownBy w' (some b) ∧ w'.heap[b]? = some (.cells (vrow 3 (ivF (totN ss (k + 1)))) 50) from padd_any (totN ss k) (fun i => isum (ss k) i 64) b w (tot_bd ss hf k hk) h)
  have ht0 : Hid (vrow 3 (fun _ => .int .i64 0) = vrow 3 (ivF (totN ss 0))) := Go.Lib.hid rfl
  have zz := zero_sheet
  clear hf ho
  have za := zero_i3
  have hD := row_lt h1
  have P : Hid (((w.alloc (.cells (vrow 3 (fun _ => .int .i64 0)) 50)).alloc (.cells (vrow 3 (fun _ => .int .i64 0)) 50)).heap[D]? = some (.cells (vrow (n * 266) (stF ss)) 39)) := Go.Lib.hid (heap_past _ _ _ _ (by simp <;> omega) (heap_past _ _ _ _ hD h1))
  have Z : Hid (((w.alloc (.cells (vrow 3 (fun _ => .int .i64 0)) 50)).alloc (.cells (vrow 3 (fun _ => .int .i64 0)) 50)).heap[w.heap.size]? = some (.cells (vrow 3 (fun _ => .int .i64 0)) 50)) := heap_past _ _ _ _ (by simp <;> omega) (heap_at _ _ _ (by simp))
  have V : Hid (((w.alloc (.cells (vrow 3 (fun _ => .int .i64 0)) 50)).alloc (.cells (vrow 3 (fun _ => .int .i64 0)) 50)).heap[w.heap.size + 1]? = some (.cells (vrow 3 (fun _ => .int .i64 0)) 50)) := heap_at _ _ _ (by simp)
  have hB : Hid (Below w.heap.size w ((w.alloc (.cells (vrow 3 (fun _ => .int .i64 0)) 50)).alloc (.cells (vrow 3 (fun _ => .int .i64 0)) 50))) := Go.Lib.hid (((Below.refl w.heap.size w).alloc (by simp <;> omega) _).alloc (by simp <;> omega) _)
  clear h1
  go_enter Tryd.func60, Tryd.ntmps60
  go_wp2
  have p1 := P.out; have z1 := Z.out; have v1 := V.out; have b1 := hB.out
  rw [ht0.out] at v1
  clear P Z V hB ht0
  go_loopw [8] (fun iv wr => ∃ k : Nat, k ≤ n ∧ iv = .int .i64 k ∧ wr.heap[D]? = some (.cells (vrow (n * 266) (stF ss)) 39) ∧ wr.heap[w.heap.size]? = some (.cells (vrow 3 (fun _ => .int .i64 0)) 50) ∧ wr.heap[w.heap.size + 1]? = some (.cells (vrow 3 (ivF (totN ss k))) 50) ∧ Below w.heap.size w wr) (fun iv _ => n - (intOf iv).toNat)
  case atStart => exact ⟨0, by omega, rfl, p1, z1, v1, b1⟩
  case round =>
    clear p1 z1 v1 b1
    obtain ⟨k, hk, rfl, P, Z, V, hB⟩ := hrel
    by_cases hlt : k < n
    · have hkI : (k : Int) < (n : Int) := by omega
      have hk0 : (0 : Int) ≤ (k : Int) := by omega
      have hnl : (n : Int) ≤ 6 := by omega
      have HS := Go.Lib.hid fun w => HDY.out k w hlt
      have HA := Go.Lib.hid fun b w h => HAD.out k b w (by omega) h
      have HR := Go.Lib.hid (stF_row ss k)
      generalize (fun i => isum (ss k) i 64) = g at HS HA
      generalize ss k = sk at HS HR
      generalize hu : totN ss (k + 1) = u at HA
      generalize totN ss k = t at V HA
      have HU := Go.Lib.hid hu
      clear hu
      replace P := Go.Lib.hid P; replace Z := Go.Lib.hid Z; replace V := Go.Lib.hid V; replace hB := Go.Lib.hid hB
      go_wp2_with (first
        | go_skip
        | ((with_reducible refine wlAt 11 rfl ?_); refine wpList_loadmid rfl 39 (.tmp 10) rfl D (k * 266) rfl (n * 266) 266 (stF ss) 39 _ Tryd.underlying39 rfl size_sheet P.out (by omega) ?_; rw [HR.out])
        | ((with_reducible refine wlOp (.store 39 (.tmp 5) (.tmp 11)) rfl ?_); refine wpList_storeall rfl 39 (.tmp 5) (.tmp 11) rfl _ rfl 266 Sh.zero.at sk.at rfl 39 size_sheet (heap_at _ _ _ rfl) (fun i _ => Sh.one _ i) ?_; rw [setRow_at _ _ _ _ _ rfl]; have X := Go.Lib.hid (heap_at wr (.cells (vrow 266 sk.at) 39) _ rfl); have nP := row_lt P.out; replace P := Go.Lib.hid (heap_past _ (.cells (vrow 266 sk.at) 39) _ _ nP P.out); have nZ := row_lt Z.out; replace Z := Go.Lib.hid (heap_past _ (.cells (vrow 266 sk.at) 39) _ _ nZ Z.out); have nV := row_lt V.out; replace V := Go.Lib.hid (heap_past _ (.cells (vrow 266 sk.at) 39) _ _ nV V.out); replace hB := Go.Lib.hid (hB.out.alloc hB.out.size (.cells (vrow 266 sk.at) 39)); generalize wr.heap.size = xb at X nP nZ nV ⊢; generalize wr.alloc _ = wx at X P Z V hB ⊢)
        | ((with_reducible refine wlAt 12 rfl ?_); refine wpList_loadall rfl 39 (.tmp 5) rfl _ rfl 266 sk.at 39 _ Tryd.underlying39 rfl size_sheet X.out ?_)
        | (go_at_call 64; (refine (HS.out _).mono ?_); rintro o w2 ⟨rfl, hb⟩; replace P := Go.Lib.hid (row_next hb P.out); replace Z := Go.Lib.hid (row_next hb Z.out); replace V := Go.Lib.hid (row_next hb V.out); replace hB := Go.Lib.hid (below_next hB.out hb); clear hb; clear X)
        | (go_at_call 94; (refine (HA.out _ _ V.out).mono ?_); rintro o w3 ⟨⟨r, rfl⟩, hg, hv⟩; replace P := Go.Lib.hid (grd_row hg P.out (show D ≠ w.heap.size + 1 by omega)); replace Z := Go.Lib.hid (grd_row hg Z.out (by omega)); replace hB := Go.Lib.hid (grd_below hB.out hg hB.out.size (by omega)); replace V := Go.Lib.hid hv; clear hg hv))
      go_roundw
      case rel => exact ⟨k + 1, by omega, by go_num, P.out, Z.out, by rw [HU.out]; exact V.out, hB.out⟩
      case measure => simp [intOf]; omega
    · obtain rfl : k = n := by omega
      have hd : decide ((k : Int) < (k : Int)) = false := by simp
      obtain ⟨t, ht⟩ : ∃ t, totN ss k = t := ⟨_, rfl⟩
      rw [ht] at V
      have HT := Go.Lib.hid ht
      clear ht
      replace P := Go.Lib.hid P; replace Z := Go.Lib.hid Z; replace V := Go.Lib.hid V; replace hB := Go.Lib.hid hB
      go_wp2_with (first
        | go_skip
        | ((with_reducible refine wlAt 16 rfl ?_); refine wpList_loadall rfl 50 (.tmp 3) rfl (w.heap.size + 1) rfl 3 (ivF t) 50 _ Tryd.underlying50 rfl size_i3 V.out ?_)
        | ((with_reducible refine wlOp (.store 50 (.tmp 2) (.tmp 16)) rfl ?_); refine wpList_storeall rfl 50 (.tmp 2) (.tmp 16) rfl w.heap.size rfl 3 (fun _ => .int .i64 0) (ivF t) rfl 50 size_i3 Z.out (fun i _ => iv_one _ i) ?_; replace Z := Go.Lib.hid (row_set Z.out (vrow 3 (ivF t))); replace hB := Go.Lib.hid (Below_setRow hB.out (Nat.le_refl _) (vrow 3 (ivF t)))))
      refine ret_row Tryd.results60 w.heap.size 3 (ivF t) 50 _ Tryd.underlying50 rfl size_i3 rfl rfl Z.out ?_
      exact ⟨by rw [HT.out], hB.out⟩
set_option maxHeartbeats 4000000 in
theorem idk_bad (ss : Nat → Sh) (D n : Nat) (e : ErrE) (w : World) (hE : Errs e w) (hn : n ≤ 1048576) (hf : ∀ i, (ss i).fit) (ho : stOk ss n = false) (h1 : w.heap[D]? = some (.cells (vrow (n * 266) (stF ss)) 39)) : Calls Tryd.prog 25 #[.slice (some ⟨D, 0, none⟩) n n] w fun o w' => o = .returned (.tuple #[.agg (vrow 3 (fun _ => .int .i64 0)), .int .i64 1]) ∧ Below w.heap.size w w' := by
  have HK := Go.Lib.hid fun w hE h => ckSt_bad ss D n n e w hE hn hf ho h
  have HU := Go.Lib.hid fun fv w hE => unl_d3_err fv 1 1 e w hE (fun w hE => codeOf_1 e w hE)
  clear ho hf
  have hmf : ∀ (fn : Fn) (first cap : Array Value) (w : World), (Instr.makeFunc fn first cap).run Tryd.prog w = .ok (.func fn first cap) w := fun _ _ _ _ => rfl
  have za := zero_i3
  have P : Hid ((w.alloc (.cells (vrow 3 (fun _ => .int .i64 0)) 50)).heap[D]? = some (.cells (vrow (n * 266) (stF ss)) 39)) := Go.Lib.hid (heap_past _ _ _ _ (row_lt h1) h1)
  have Z : Hid ((w.alloc (.cells (vrow 3 (fun _ => .int .i64 0)) 50)).heap[w.heap.size]? = some (.cells (vrow 3 (fun _ => .int .i64 0)) 50)) := heap_at _ _ _ (by simp)
  have hB : Hid (Below w.heap.size w (w.alloc (.cells (vrow 3 (fun _ => .int .i64 0)) 50))) := Go.Lib.hid ((Below.refl w.heap.size w).alloc (by simp <;> omega) _)
  clear h1
  go_enter Tryd.func25, Tryd.ntmps25
  go_wp2_with (first
    | go_skip
    | (go_at_call 55; (refine (HK.out _ (hE.next hB.out) P.out).mono ?_); rintro o w1 ⟨rfl, hb⟩; replace P := Go.Lib.hid (row_next hb P.out); replace Z := Go.Lib.hid (row_next hb Z.out); replace hB := Go.Lib.hid (below_next hB.out hb); clear hb)
    | (go_at_call 59; (refine (HU.out _ _ (hE.next hB.out)).mono ?_); rintro o w2 ⟨rfl, hb⟩; replace Z := Go.Lib.hid (row_next hb Z.out); replace hB := Go.Lib.hid (below_next hB.out hb); clear hb)
    | ((with_reducible refine wlOp (.store 50 (.tmp 2) (.tmp 9)) rfl ?_); refine wpList_storeall rfl 50 (.tmp 2) (.tmp 9) rfl w.heap.size rfl 3 (fun _ => .int .i64 0) (fun _ => .int .i64 0) rfl 50 size_i3 Z.out (fun i _ => rfl) ?_; replace Z := Go.Lib.hid (row_set Z.out (vrow 3 (fun _ => .int .i64 0))); replace hB := Go.Lib.hid (Below_setRow hB.out (Nat.le_refl _) (vrow 3 (fun _ => .int .i64 0)))))
  exact ret_row2 Tryd.results25 w.heap.size 3 (fun _ => .int .i64 0) 50 _ Tryd.underlying50 rfl size_i3 (.int .i64 1) rfl rfl rfl Z.out ⟨rfl, hB.out⟩
set_option maxHeartbeats 4000000 in
theorem idk_ok (ss : Nat → Sh) (D n : Nat) (e : ErrE) (w : World) (hE : Errs e w) (hn : n ≤ 1048576) (hf : ∀ i, (ss i).fit) (ho : stOk ss n = true) (h6 : n ≤ 6) (hoo : ∀ k, k < n → okI (ss k) = true) (h1 : w.heap[D]? = some (.cells (vrow (n * 266) (stF ss)) 39)) : Calls Tryd.prog 25 #[.slice (some ⟨D, 0, none⟩) n n] w fun o w' => o = .returned (.tuple #[.agg (vrow 3 (ivF (totN ss n))), .int .i64 0]) ∧ Below w.heap.size w w' := by
  have HK := Go.Lib.hid fun w hE h => ckSt_ok ss D n n e w hE hn hf ho h
  have HU0 := fun w h => unl_d3_ok (totN ss n) (.slice (some ⟨D, 0, none⟩) n n) w (fun W hW => sdy_any ss D n n W h6 hf hoo (row_next hW h))
  obtain ⟨t, ht⟩ : ∃ t, totN ss n = t := ⟨_, rfl⟩
  rw [ht] at HU0
  have HT := Go.Lib.hid ht
  have HU := Go.Lib.hid HU0
  clear ho hf hoo HU0 ht
  have hmf : ∀ (fn : Fn) (first cap : Array Value) (w : World), (Instr.makeFunc fn first cap).run Tryd.prog w = .ok (.func fn first cap) w := fun _ _ _ _ => rfl
  have za := zero_i3
  have P : Hid ((w.alloc (.cells (vrow 3 (fun _ => .int .i64 0)) 50)).heap[D]? = some (.cells (vrow (n * 266) (stF ss)) 39)) := Go.Lib.hid (heap_past _ _ _ _ (row_lt h1) h1)
  have Z : Hid ((w.alloc (.cells (vrow 3 (fun _ => .int .i64 0)) 50)).heap[w.heap.size]? = some (.cells (vrow 3 (fun _ => .int .i64 0)) 50)) := heap_at _ _ _ (by simp)
  have hB : Hid (Below w.heap.size w (w.alloc (.cells (vrow 3 (fun _ => .int .i64 0)) 50))) := Go.Lib.hid ((Below.refl w.heap.size w).alloc (by simp <;> omega) _)
  clear h1
  go_enter Tryd.func25, Tryd.ntmps25
  go_wp2_with (first
    | go_skip
    | (go_at_call 55; (refine (HK.out _ (hE.next hB.out) P.out).mono ?_); rintro o w1 ⟨rfl, hb⟩; replace P := Go.Lib.hid (row_next hb P.out); replace Z := Go.Lib.hid (row_next hb Z.out); replace hB := Go.Lib.hid (below_next hB.out hb); clear hb)
    | (go_at_call 59; (refine (HU.out _ P.out).mono ?_); rintro o w2 ⟨rfl, hb⟩; replace Z := Go.Lib.hid (row_next hb Z.out); replace hB := Go.Lib.hid (below_next hB.out hb); clear hb)
    | ((with_reducible refine wlOp (.store 50 (.tmp 2) (.tmp 9)) rfl ?_); refine wpList_storeall rfl 50 (.tmp 2) (.tmp 9) rfl w.heap.size rfl 3 (fun _ => .int .i64 0) (ivF t) rfl 50 size_i3 Z.out (fun i _ => rfl) ?_; replace Z := Go.Lib.hid (row_set Z.out (vrow 3 (ivF t))); replace hB := Go.Lib.hid (Below_setRow hB.out (Nat.le_refl _) (vrow 3 (ivF t)))))
  exact ret_row2 Tryd.results25 w.heap.size 3 (ivF t) 50 _ Tryd.underlying50 rfl size_i3 (.int .i64 0) rfl rfl rfl Z.out ⟨by rw [HT.out], hB.out⟩
end Go.Proofs.YtfhfiaphdgfmnaaDoor
