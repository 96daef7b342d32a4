import Derived.Deep.RegionHeld3
import Derived.Test.YtmcpaangofdmpaaDoorUnP
import Derived.Test.YtmcpaangofdmpaaDoorUnI
import Derived.Test.YtmcpaangofdmpaaDoorCopy
import Derived.Test.YtmcpaangofdmpaaDoorPartS
import Derived.Test.YtmcpaangofdmpaaDoorSpots
import Derived.Test.YtmcpaangofdmpaaDoorBkw
import Derived.Test.YtmcpaangofdmpaaDoorOkEq
namespace Go.Proofs.YtmcpaangofdmpaaDoor
open Go.RowKit
set_option maxRecDepth 100000
set_option linter.unusedVariables false
set_option linter.unusedSimpArgs false
theorem fo_overU (a c : Int) (d : Bool) (p : Int) : vrow 3 (over (foAt a d p) 0 1 fun _ => .int .i8 c) = vrow 3 (foAt c d p) := vrow_ext _ _ _ fun i hi => by
  have h : i = 0 ∨ i = 1 ∨ i = 2 := by omega
  rcases h with rfl | rfl | rfl <;> rfl
theorem size_i8U : (Tryd.prog.info? 22).map (·.size) = some 1 := by kernel_rfl
theorem keepU {W w3 : World} {mb g : Nat} {x : Obj} (h : W.grownBy w3 (some mb)) (hl : g < W.heap.size) (hn : g ≠ mb) (hg : W.heap[g]? = some x) : w3.heap[g]? = some x := (h.block g hl (by simp; omega)).trans hg
set_option maxHeartbeats 2000000 in
theorem specUn_bad (s : Sh) (d : Bool) (w : World) (hf : s.fit) (hv : okI s = false) : Calls Tryd.prog 31 #[.agg s.row, .bool d] w fun o w' => o = .returned (.tuple #[.agg Sh.zero.row, .int .i64 1]) ∧ Below w.heap.size w w' := by
  have HO := Go.Lib.hid fun W h => ok_any s w.heap.size W h hf
  rw [← ok_eq s hf, hv] at HO
  clear hv
  have zz := zero_sheet
  have P : Hid (((w.alloc (.cells (vrow 266 s.at) 34)).alloc (.cells (vrow 266 Sh.zero.at) 34)).heap[w.heap.size]? = some (.cells (vrow 266 s.at) 34)) := (heap_past _ _ _ _ (by simp <;> omega) (heap_at _ _ _ (by simp)))
  have Z : Hid (((w.alloc (.cells (vrow 266 s.at) 34)).alloc (.cells (vrow 266 Sh.zero.at) 34)).heap[w.heap.size + 1]? = some (.cells (vrow 266 Sh.zero.at) 34)) := (heap_at _ _ _ (by simp))
  have hB : Hid (Below w.heap.size w ((w.alloc (.cells (vrow 266 s.at) 34)).alloc (.cells (vrow 266 Sh.zero.at) 34))) := Go.Lib.hid (((Below.refl w.heap.size w).alloc (by simp <;> omega) _).alloc (by simp <;> omega) _)
  go_enter Tryd.func31, Tryd.ntmps31
  go_wp2_with (first
    | go_skip
    | ((with_reducible refine wlAt 12 rfl ?_); refine wpList_built rfl 34 [] rfl [] (by rfl) _ built_zero ?_)
    | (go_at_call 50; (refine (HO.out _ P.out).mono ?_; rintro o w1 ⟨rfl, hb⟩; replace P := Go.Lib.hid (row_next hb P.out); replace Z := Go.Lib.hid (row_next hb Z.out); replace hB := Go.Lib.hid (below_next hB.out hb); clear hb))
    | ((with_reducible refine wlOp (.store 34 (.tmp 4) (.tmp 12)) rfl ?_); refine wpList_storeall rfl 34 (.tmp 4) (.tmp 12) rfl (w.heap.size + 1) rfl 266 Sh.zero.at Sh.zero.at rfl 34 size_sheet Z.out (fun i _ => Sh.one _ i) ?_; replace Z := Go.Lib.hid (row_set Z.out (vrow 266 Sh.zero.at)); replace hB := Go.Lib.hid (Below_setRow hB.out (show w.heap.size ≤ w.heap.size + 1 by omega) (vrow 266 Sh.zero.at))))
  exact ret_row2 Tryd.results31 (w.heap.size + 1) 266 Sh.zero.at 34 _ Tryd.underlying34 rfl size_sheet (.int .i64 1) rfl rfl rfl Z.out ⟨rfl, hB.out⟩
set_option maxHeartbeats 8000000 in
theorem specUn_v_lim (s : Sh) (w : World) (hf : s.fit) (hv : okI s = true) (a c : Nat) (ea0 : s.wide = a) (ec0 : s.high = c) (ha : 1 ≤ a ∧ a ≤ 8) (hc : 1 ≤ c ∧ c ≤ 8) (hbig : 8 < 2 * a) : Calls Tryd.prog 31 #[.agg s.row, .bool false] w fun o w' => o = .returned (.tuple #[.agg Sh.zero.row, .int .i64 3]) ∧ Below w.heap.size w w' := by
  have HO := Go.Lib.hid fun W h => ok_any s w.heap.size W h hf
  rw [← ok_eq s hf, hv] at HO
  clear hv
  have ea := Go.Lib.hid ea0; have ec := Go.Lib.hid ec0
  clear ea0 ec0
  have zz := zero_sheet
  have zf := zero_foldU
  have hw2 : IntKind.i8.wrap (2 * (a : Int)) = 2 * (a : Int) := IntWalk.i8_in _ (by omega)
  have hw3 : IntKind.i8.wrap (2 * (c : Int)) = 2 * (c : Int) := IntWalk.i8_in _ (by omega)
  have hg : decide ((8 : Int) < 2 * (a : Int)) = true := by simp; omega
  have hg2 : decide ((8 : Int) < (c : Int)) = false := by simp; omega
  have P : Hid (((w.alloc (.cells (vrow 266 s.at) 34)).alloc (.cells (vrow 266 Sh.zero.at) 34)).heap[w.heap.size]? = some (.cells (vrow 266 s.at) 34)) := (heap_past _ _ _ _ (by simp <;> omega) (heap_at _ _ _ (by simp)))
  have Z : Hid (((w.alloc (.cells (vrow 266 s.at) 34)).alloc (.cells (vrow 266 Sh.zero.at) 34)).heap[w.heap.size + 1]? = some (.cells (vrow 266 Sh.zero.at) 34)) := (heap_at _ _ _ (by simp))
  have hB : Hid (Below w.heap.size w ((w.alloc (.cells (vrow 266 s.at) 34)).alloc (.cells (vrow 266 Sh.zero.at) 34))) := Go.Lib.hid (((Below.refl w.heap.size w).alloc (by simp <;> omega) _).alloc (by simp <;> omega) _)
  go_enter Tryd.func31, Tryd.ntmps31
  go_wp2_with (first
    | go_skip
    | (go_at_call 50; (refine (HO.out _ P.out).mono ?_; rintro o w1 ⟨rfl, hb⟩; replace P := Go.Lib.hid (row_next hb P.out); replace Z := Go.Lib.hid (row_next hb Z.out); replace hB := Go.Lib.hid (below_next hB.out hb); clear hb))
    | ((with_reducible refine wlAt 14 rfl ?_); refine wpList_load1 rfl 22 (.tmp 13) rfl w.heap.size 0 rfl 266 s.at _ _ Tryd.underlying22 rfl P.out (by omega) ?_; rw [Sh.at_0, ea.out])
    | ((with_reducible refine wlAt 16 rfl ?_); refine wpList_built rfl 38 [(0, .tmp 14), (1, .tmp 15)] rfl [(0, .int .i8 a), (1, .bool false)] (by rfl) _ (built_foUD a false) ?_)
    | ((with_reducible refine wlOp (.store 38 (.tmp 6) (.tmp 16)) rfl ?_); refine wpList_storeall rfl 38 (.tmp 6) (.tmp 16) rfl _ rfl 3 (foAt 0 false 0) (foAt a false 0) rfl 38 size_fold (heap_at _ _ _ rfl) (fun i _ => foAt_oneU _ _ _ i) ?_; rw [setRow_at _ _ _ _ _ rfl]; have F := Go.Lib.hid (heap_at w1 (.cells (vrow 3 (foAt a false 0)) 38) _ rfl); have qP := row_lt P.out; replace P := Go.Lib.hid (heap_past w1 (.cells (vrow 3 (foAt a false 0)) 38) _ _ qP P.out); have qZ := row_lt Z.out; replace Z := Go.Lib.hid (heap_past w1 (.cells (vrow 3 (foAt a false 0)) 38) _ _ qZ Z.out); have hsz := hB.out.size; replace hB := Go.Lib.hid (hB.out.alloc hsz (.cells (vrow 3 (foAt a false 0)) 38)); obtain ⟨fb, hfb⟩ : ∃ z, w1.heap.size = z := ⟨_, rfl⟩; rw [hfb] at F qP qZ hsz ⊢; have hfl := row_lt F.out; generalize World.alloc w1 _ = W1 at P Z F hB hfl ⊢; clear hfb)
    | ((with_reducible refine wlAt 18 rfl ?_); refine wpList_load1 rfl 22 (.tmp 17) rfl w.heap.size 0 rfl 266 s.at _ _ Tryd.underlying22 rfl P.out (by omega) ?_; rw [Sh.at_0, ea.out])
    | ((with_reducible refine wlAt 21 rfl ?_); refine wpList_load1 rfl 22 (.tmp 20) rfl w.heap.size 1 rfl 266 s.at _ _ Tryd.underlying22 rfl P.out (by omega) ?_; rw [Sh.at_1, ec.out])
    | ((with_reducible refine wlAt 22 rfl ?_); refine wpList_built rfl 34 [(0, .tmp 19), (1, .tmp 21)] rfl [(0, .int .i8 (2 * (a : Int))), (1, .int .i8 (c : Int))] (by rfl) _ (built_plain (2 * (a : Int)) (c : Int)) ?_)
    | ((with_reducible refine wlOp (.store 34 (.tmp 7) (.tmp 22)) rfl ?_); refine wpList_storeall rfl 34 (.tmp 7) (.tmp 22) rfl _ rfl 266 Sh.zero.at (plainSh (2 * (a : Int)) (c : Int)).at rfl 34 size_sheet (heap_at _ _ _ rfl) (fun i _ => Sh.one _ i) ?_; rw [setRow_at _ _ _ _ _ rfl]; have V := Go.Lib.hid (heap_at W1 (.cells (vrow 266 (plainSh (2 * (a : Int)) (c : Int)).at) 34) _ rfl); replace P := Go.Lib.hid (heap_past W1 (.cells (vrow 266 (plainSh (2 * (a : Int)) (c : Int)).at) 34) _ _ (row_lt P.out) P.out); replace Z := Go.Lib.hid (heap_past W1 (.cells (vrow 266 (plainSh (2 * (a : Int)) (c : Int)).at) 34) _ _ (row_lt Z.out) Z.out); replace F := Go.Lib.hid (heap_past W1 (.cells (vrow 266 (plainSh (2 * (a : Int)) (c : Int)).at) 34) _ _ (row_lt F.out) F.out); have hsz1 := hB.out.size; replace hB := Go.Lib.hid (hB.out.alloc hsz1 (.cells (vrow 266 (plainSh (2 * (a : Int)) (c : Int)).at) 34)); obtain ⟨mb, hmb⟩ : ∃ z, W1.heap.size = z := ⟨_, rfl⟩; rw [hmb] at V hfl hsz1 ⊢; generalize World.alloc W1 _ = W2 at P Z F V hB ⊢; clear hmb)
    | ((with_reducible refine wlAt 34 rfl ?_); refine wpList_ld1 22 _ rfl (by first | exact want_n rfl | exact want_g _ _ _ rfl rfl rfl) (mb) 0 rfl 266 (plainSh (2 * (a : Int)) (c : Int)).at _ rw_i8 V.out (by omega) ?_; rw [show (plainSh (2 * (a : Int)) (c : Int)).at 0 = .int .i8 (2 * (a : Int)) from rfl])
    | ((with_reducible refine wlAt 38 rfl ?_); refine wpList_ld1 22 _ rfl (by first | exact want_n rfl | exact want_g _ _ _ rfl rfl rfl) (mb) 1 rfl 266 (plainSh (2 * (a : Int)) (c : Int)).at _ rw_i8 V.out (by omega) ?_; rw [show (plainSh (2 * (a : Int)) (c : Int)).at 1 = .int .i8 ((c : Int)) from rfl])
    | ((with_reducible refine wlAt 41 rfl ?_); refine wpList_built rfl 34 [] rfl [] (by rfl) _ built_zero ?_)
    | ((with_reducible refine wlOp (.store 34 (.tmp 4) (.tmp 41)) rfl ?_); refine wpList_storeall rfl 34 (.tmp 4) (.tmp 41) rfl (w.heap.size + 1) rfl 266 Sh.zero.at Sh.zero.at rfl 34 size_sheet Z.out (fun i _ => Sh.one _ i) ?_; replace Z := Go.Lib.hid (row_set Z.out (vrow 266 Sh.zero.at)); replace hB := Go.Lib.hid (Below_setRow hB.out (show w.heap.size ≤ w.heap.size + 1 by omega) (vrow 266 Sh.zero.at))))
  exact ret_row2 Tryd.results31 (w.heap.size + 1) 266 Sh.zero.at 34 _ Tryd.underlying34 rfl size_sheet (.int .i64 3) rfl rfl rfl Z.out ⟨rfl, hB.out⟩
set_option maxHeartbeats 8000000 in
theorem specUn_v_ok (s : Sh) (w : World) (hf : s.fit) (hv : okI s = true) (a c : Nat) (ea0 : s.wide = a) (ec0 : s.high = c) (ha : 1 ≤ a ∧ a ≤ 8) (hc : 1 ≤ c ∧ c ≤ 8) (hbig : 2 * a ≤ 8) : Calls Tryd.prog 31 #[.agg s.row, .bool false] w fun o w' => o = .returned (.tuple #[.agg ((pairsL a c).foldl (unS s false a c) (plainSh (2 * (a : Int)) (c : Int))).row, .int .i64 0]) ∧ Below w.heap.size w w' := by
  have HO := Go.Lib.hid fun W h => ok_any s w.heap.size W h hf
  rw [← ok_eq s hf, hv] at HO
  clear hv
  have ea := Go.Lib.hid ea0; have ec := Go.Lib.hid ec0
  have HSp := Go.Lib.hid fun W hs => spots_any s w.heap.size a c W hs ea0 ec0 (by omega) (by omega)
  have hLn : (cellsL a c).length = a * c := cellsL_length a c
  have hac : 1 ≤ (cellsL a c).length ∧ (cellsL a c).length ≤ 64 := by rw [hLn]; exact ⟨Nat.mul_le_mul ha.1 hc.1, Nat.mul_le_mul ha.2 hc.2⟩
  have hval : (cellsL a c).map (·.1) = pairsL a c := cellsL_val a c (by omega) c (by omega)
  have hmem : ∀ p ∈ (cellsL a c), p.1.1 < a ∧ p.1.2 < c := fun p hp => pairsL_mem (by rw [← hval]; exact List.mem_map_of_mem hp)
  generalize (cellsL a c) = L at *
  clear hLn
  clear ea0 ec0
  have zz := zero_sheet
  have zf := zero_foldU
  have hw2 : IntKind.i8.wrap (2 * (a : Int)) = 2 * (a : Int) := IntWalk.i8_in _ (by omega)
  have hw3 : IntKind.i8.wrap (2 * (c : Int)) = 2 * (c : Int) := IntWalk.i8_in _ (by omega)
  have hg : decide ((8 : Int) < 2 * (a : Int)) = false := by simp; omega
  have hg2 : decide ((8 : Int) < (c : Int)) = false := by simp; omega
  have P : Hid (((w.alloc (.cells (vrow 266 s.at) 34)).alloc (.cells (vrow 266 Sh.zero.at) 34)).heap[w.heap.size]? = some (.cells (vrow 266 s.at) 34)) := (heap_past _ _ _ _ (by simp <;> omega) (heap_at _ _ _ (by simp)))
  have Z : Hid (((w.alloc (.cells (vrow 266 s.at) 34)).alloc (.cells (vrow 266 Sh.zero.at) 34)).heap[w.heap.size + 1]? = some (.cells (vrow 266 Sh.zero.at) 34)) := (heap_at _ _ _ (by simp))
  have hB : Hid (Below w.heap.size w ((w.alloc (.cells (vrow 266 s.at) 34)).alloc (.cells (vrow 266 Sh.zero.at) 34))) := Go.Lib.hid (((Below.refl w.heap.size w).alloc (by simp <;> omega) _).alloc (by simp <;> omega) _)
  go_enter Tryd.func31, Tryd.ntmps31
  go_wp2_with (first
    | go_skip
    | (go_at_call 50; (refine (HO.out _ P.out).mono ?_; rintro o w1 ⟨rfl, hb⟩; replace P := Go.Lib.hid (row_next hb P.out); replace Z := Go.Lib.hid (row_next hb Z.out); replace hB := Go.Lib.hid (below_next hB.out hb); clear hb))
    | ((with_reducible refine wlAt 14 rfl ?_); refine wpList_load1 rfl 22 (.tmp 13) rfl w.heap.size 0 rfl 266 s.at _ _ Tryd.underlying22 rfl P.out (by omega) ?_; rw [Sh.at_0, ea.out])
    | ((with_reducible refine wlAt 16 rfl ?_); refine wpList_built rfl 38 [(0, .tmp 14), (1, .tmp 15)] rfl [(0, .int .i8 a), (1, .bool false)] (by rfl) _ (built_foUD a false) ?_)
    | ((with_reducible refine wlOp (.store 38 (.tmp 6) (.tmp 16)) rfl ?_); refine wpList_storeall rfl 38 (.tmp 6) (.tmp 16) rfl _ rfl 3 (foAt 0 false 0) (foAt a false 0) rfl 38 size_fold (heap_at _ _ _ rfl) (fun i _ => foAt_oneU _ _ _ i) ?_; rw [setRow_at _ _ _ _ _ rfl]; have F := Go.Lib.hid (heap_at w1 (.cells (vrow 3 (foAt a false 0)) 38) _ rfl); have qP := row_lt P.out; replace P := Go.Lib.hid (heap_past w1 (.cells (vrow 3 (foAt a false 0)) 38) _ _ qP P.out); have qZ := row_lt Z.out; replace Z := Go.Lib.hid (heap_past w1 (.cells (vrow 3 (foAt a false 0)) 38) _ _ qZ Z.out); have hsz := hB.out.size; replace hB := Go.Lib.hid (hB.out.alloc hsz (.cells (vrow 3 (foAt a false 0)) 38)); obtain ⟨fb, hfb⟩ : ∃ z, w1.heap.size = z := ⟨_, rfl⟩; rw [hfb] at F qP qZ hsz ⊢; have hfl := row_lt F.out; generalize World.alloc w1 _ = W1 at P Z F hB hfl ⊢; clear hfb)
    | ((with_reducible refine wlAt 18 rfl ?_); refine wpList_load1 rfl 22 (.tmp 17) rfl w.heap.size 0 rfl 266 s.at _ _ Tryd.underlying22 rfl P.out (by omega) ?_; rw [Sh.at_0, ea.out])
    | ((with_reducible refine wlAt 21 rfl ?_); refine wpList_load1 rfl 22 (.tmp 20) rfl w.heap.size 1 rfl 266 s.at _ _ Tryd.underlying22 rfl P.out (by omega) ?_; rw [Sh.at_1, ec.out])
    | ((with_reducible refine wlAt 22 rfl ?_); refine wpList_built rfl 34 [(0, .tmp 19), (1, .tmp 21)] rfl [(0, .int .i8 (2 * (a : Int))), (1, .int .i8 (c : Int))] (by rfl) _ (built_plain (2 * (a : Int)) (c : Int)) ?_)
    | ((with_reducible refine wlOp (.store 34 (.tmp 7) (.tmp 22)) rfl ?_); refine wpList_storeall rfl 34 (.tmp 7) (.tmp 22) rfl _ rfl 266 Sh.zero.at (plainSh (2 * (a : Int)) (c : Int)).at rfl 34 size_sheet (heap_at _ _ _ rfl) (fun i _ => Sh.one _ i) ?_; rw [setRow_at _ _ _ _ _ rfl]; have V := Go.Lib.hid (heap_at W1 (.cells (vrow 266 (plainSh (2 * (a : Int)) (c : Int)).at) 34) _ rfl); replace P := Go.Lib.hid (heap_past W1 (.cells (vrow 266 (plainSh (2 * (a : Int)) (c : Int)).at) 34) _ _ (row_lt P.out) P.out); replace Z := Go.Lib.hid (heap_past W1 (.cells (vrow 266 (plainSh (2 * (a : Int)) (c : Int)).at) 34) _ _ (row_lt Z.out) Z.out); replace F := Go.Lib.hid (heap_past W1 (.cells (vrow 266 (plainSh (2 * (a : Int)) (c : Int)).at) 34) _ _ (row_lt F.out) F.out); have hsz1 := hB.out.size; replace hB := Go.Lib.hid (hB.out.alloc hsz1 (.cells (vrow 266 (plainSh (2 * (a : Int)) (c : Int)).at) 34)); obtain ⟨mb, hmb⟩ : ∃ z, W1.heap.size = z := ⟨_, rfl⟩; rw [hmb] at V hfl hsz1 ⊢; generalize World.alloc W1 _ = W2 at P Z F V hB ⊢; clear hmb)
    | ((with_reducible refine wlAt 34 rfl ?_); refine wpList_ld1 22 _ rfl (by first | exact want_n rfl | exact want_g _ _ _ rfl rfl rfl) (mb) 0 rfl 266 (plainSh (2 * (a : Int)) (c : Int)).at _ rw_i8 V.out (by omega) ?_; rw [show (plainSh (2 * (a : Int)) (c : Int)).at 0 = .int .i8 (2 * (a : Int)) from rfl])
    | ((with_reducible refine wlAt 38 rfl ?_); refine wpList_ld1 22 _ rfl (by first | exact want_n rfl | exact want_g _ _ _ rfl rfl rfl) (mb) 1 rfl 266 (plainSh (2 * (a : Int)) (c : Int)).at _ rw_i8 V.out (by omega) ?_; rw [show (plainSh (2 * (a : Int)) (c : Int)).at 1 = .int .i8 ((c : Int)) from rfl])
    | (go_at_call 71; (refine (HSp.out _ P.out).mono ?_; rintro e w5 ⟨v, rfl, hO, hb⟩; have ngb := hb.size; have nV := row_lt V.out; replace P := Go.Lib.hid (row_next hb P.out); replace F := Go.Lib.hid (row_next hb F.out); replace Z := Go.Lib.hid (row_next hb Z.out); replace V := Go.Lib.hid (row_next hb V.out); replace hB := Go.Lib.hid (below_next hB.out hb); obtain ⟨g, cap, f, rfl, hg, hcap, hO2, hf2⟩ := hO.row (by omega); have O := Go.Lib.hid hO2; have HF := Go.Lib.hid hf2; clear hO hO2 hf2 hb ngb)))
  have nmb : w.heap.size + 1 < mb ∧ fb < mb ∧ w.heap.size + 1 < fb ∧ mb < g := by omega
  go_loopw [9] (fun iv wr => ∃ k : Nat, k ≤ L.length ∧ iv = .int .i64 k ∧ wr.heap[mb]? = some (.cells (vrow 266 (((L.take k).map (·.1)).foldl (unS s false a c) (plainSh (2 * (a : Int)) (c : Int))).at) 34) ∧ wr.heap[g]? = some (.cells (vrow (cap * 2) f) 111) ∧ wr.heap[w.heap.size]? = some (.cells (vrow 266 s.at) 34) ∧ wr.heap[w.heap.size + 1]? = some (.cells (vrow 266 Sh.zero.at) 34) ∧ wr.heap[fb]? = some (.cells (vrow 3 (foAt a false 0)) 38) ∧ Below w.heap.size w wr) (fun iv _ => L.length - (intOf iv).toNat)
  case atStart => exact ⟨0, by omega, rfl, V.out, O.out, P.out, Z.out, F.out, hB.out⟩
  case round =>
    clear V O P Z F hB
    obtain ⟨k, hk, rfl, V, O, P, Z, F, hB⟩ := hrel
    have hsz3 := hB.size
    by_cases hlt : k < L.length
    · have hf2 := HF.out k hlt
      obtain ⟨⟨⟨i, j⟩, hi, hj⟩, hp⟩ : ∃ p, L[k]'hlt = p := ⟨_, rfl⟩
      have hin := hmem _ (List.getElem_mem hlt)
      obtain ⟨i2, ei⟩ : ∃ z, 2 * a - 1 - i = z := ⟨_, rfl⟩
      obtain ⟨j2, ej⟩ : ∃ z, j = z := ⟨_, rfl⟩
      have hap : ((L.take (k + 1)).map (·.1)).foldl (unS s false a c) (plainSh (2 * (a : Int)) (c : Int)) = copyS s (copyS s (((L.take k).map (·.1)).foldl (unS s false a c) (plainSh (2 * (a : Int)) (c : Int))) i j i j) i2 j2 i j := by
        rw [List.take_succ_eq_append_getElem hlt, hp, List.map_append, List.foldl_append, ← ei, ← ej]
        rfl
      rw [hp] at hf2 hin
      clear hp
      replace hi : i < 8 := hi
      replace hj : j < 8 := hj
      obtain ⟨hia, hjc⟩ : i < a ∧ j < c := hin
      obtain ⟨fx0, fx1⟩ : f (k * 2) = .int .i8 i ∧ f (k * 2 + 1) = .int .i8 j := hf2
      have hR : vrow 2 (fun q => f (k * 2 + q)) = vrow 2 (spAt i j) := vrow_ext _ _ _ fun q hq => by
        have hq2 : q = 0 ∨ q = 1 := by omega
        rcases hq2 with rfl | rfl
        · rw [Nat.add_zero, fx0]; rfl
        · rw [fx1]; rfl
      have HR := Go.Lib.hid hR; have hap := Go.Lib.hid hap
      clear hR fx0 fx1
      generalize ((L.take k).map (·.1)).foldl (unS s false a c) (plainSh (2 * (a : Int)) (c : Int)) = T at *
      have hi2 : i2 < 8 := by omega
      have hj2 : j2 < 8 := by omega
      have HPt := Go.Lib.hid fun w => (lpart_false (a : Int) 0 i j w (by omega) (by omega) (by omega) : Calls _ _ _ _ _)
      have eP : spAt (2 * (a : Int) - 1 - i) (j : Int) = spAt (i2 : Int) (j2 : Int) := by rw [show (2 * (a : Int) - 1 - i) = (i2 : Int) by omega, show (j : Int) = (j2 : Int) by omega]
      rw [eP] at HPt
      clear eP ei ej
      have hC1 := Go.Lib.hid fun w0 (hs : w0.heap[w.heap.size]? = some (.cells (vrow 266 s.at) 34)) (ht : w0.heap[mb]? = some (.cells (vrow 266 T.at) 34)) => copyC s T w.heap.size mb i j i j w0 (by omega) hs ht hi hj hi hj
      have hC2 := Go.Lib.hid fun w0 (hs : w0.heap[w.heap.size]? = some (.cells (vrow 266 s.at) 34)) (ht : w0.heap[mb]? = some (.cells (vrow 266 (copyS s T i j i j).at) 34)) => copyC s (copyS s T i j i j) w.heap.size mb i2 j2 i j w0 (by omega) hs ht hi2 hj2 hi hj
      generalize (copyS s T i j i j) = T1 at *
      replace P := Go.Lib.hid P; replace O := Go.Lib.hid O; replace Z := Go.Lib.hid Z; replace V := Go.Lib.hid V; replace F := Go.Lib.hid F; replace hB := Go.Lib.hid hB
      have hkI : (k : Int) < (L.length : Int) := by omega
      have hk0 : (0 : Int) ≤ (k : Int) := by omega
      have hkd : decide ((k : Int) < (L.length : Int)) = true := by simpa using hkI
      go_wp2
      refine region_qt 8 (by kernel_rfl) (by kernel_rfl) ?_
      intro Wa hW
      rw [hW] at hB P O Z V F
      clear hW
      simp only [List.take_succ_cons, List.take_zero, List.drop_succ_cons, List.drop_zero]
      have O' := Go.Lib.hid (cls_row' O.out); have F' := Go.Lib.hid (cls_row' F.out)
      (repeat (first
        | go_big_quiet_skip
        | (refine wpQuiet_loadmid 111 _ rfl (by first | exact want_n rfl | exact want_g _ _ _ rfl rfl rfl) g (k * 2) rfl (cap * 2) 2 f _ rw_spot size_spot O'.out (by omega) ?_; rw [HR.out]; simp only [Act.put, List.setIfInBounds_toArray, List.set_cons_succ, List.set_cons_zero])
        | (refine wpQuiet_step (fun K hK => ?_); go_simp; simp only [hkI, hk0, if_true]; go_simp; refine hK _ ?_; clear hK K)
        | go_big_quiet_step (fail)))
      refine wpQuiet_nil ?_
      intro Wb hb
      replace P := Go.Lib.hid (row_next hb P.out); replace O := Go.Lib.hid (row_next hb O.out); replace Z := Go.Lib.hid (row_next hb Z.out); replace V := Go.Lib.hid (row_next hb V.out); replace F := Go.Lib.hid (row_next hb F.out); replace hB := Go.Lib.hid (below_next hB.out hb)
      clear hb O' F'
      go_wp2_with (first
        | (go_at_call 72; (refine (hC1.out _ (by exact P.out) (by exact V.out)).mono ?_; rintro e Wc ⟨⟨rWc, rfl⟩, hg3, hM3⟩)))
      replace P := Go.Lib.hid (keepU hg3 (row_lt P.out) (by omega) P.out); replace O := Go.Lib.hid (keepU hg3 (row_lt O.out) (by omega) O.out); replace Z := Go.Lib.hid (keepU hg3 (row_lt Z.out) (by omega) Z.out); replace F := Go.Lib.hid (keepU hg3 (row_lt F.out) (by omega) F.out)
      replace hB := Go.Lib.hid (hB.out.grown hg3 hB.out.size (fun q hq => by cases hq; omega))
      replace V := Go.Lib.hid hM3
      clear hg3 hM3
      go_wp2
      refine region_qt 10 (by kernel_rfl) (by kernel_rfl) ?_
      intro Wd hW
      rw [hW] at hB P O Z V F
      clear hW
      simp only [List.take_succ_cons, List.take_zero, List.drop_succ_cons, List.drop_zero]
      have O' := Go.Lib.hid (cls_row' O.out); have F' := Go.Lib.hid (cls_row' F.out)
      (repeat (first
        | go_big_quiet_skip
        | (refine wpQuiet_loadmid 111 _ rfl (by first | exact want_n rfl | exact want_g _ _ _ rfl rfl rfl) g (k * 2) rfl (cap * 2) 2 f _ rw_spot size_spot O'.out (by omega) ?_; rw [HR.out]; simp only [Act.put, List.setIfInBounds_toArray, List.set_cons_succ, List.set_cons_zero])
        | (refine wpQuiet_loadmid 38 _ rfl (by first | exact want_n rfl | exact want_g _ _ _ rfl rfl rfl) fb 0 rfl 3 3 (foAt a false 0) _ rw_fold size_fold F'.out (by omega) ?_; simp only [Nat.zero_add]; simp only [Act.put, List.setIfInBounds_toArray, List.set_cons_succ, List.set_cons_zero])
        | go_big_quiet_step ((go_at_call 73; exact cls_call _ (fun w hw => HPt.out w)))
        | (refine wpQuiet_step (fun K hK => ?_); go_simp; simp only [hkI, hk0, if_true]; go_simp; refine hK _ ?_; clear hK K)
        | go_big_quiet_step (fail)))
      refine wpQuiet_nil ?_
      intro We hb
      replace P := Go.Lib.hid (row_next hb P.out); replace O := Go.Lib.hid (row_next hb O.out); replace Z := Go.Lib.hid (row_next hb Z.out); replace V := Go.Lib.hid (row_next hb V.out); replace F := Go.Lib.hid (row_next hb F.out); replace hB := Go.Lib.hid (below_next hB.out hb)
      clear hb O' F'
      go_wp2_with (first
        | (go_at_call 72; (refine (hC2.out _ (by exact P.out) (by exact V.out)).mono ?_; rintro e Wf ⟨⟨rWf, rfl⟩, hg3, hM3⟩)))
      replace P := Go.Lib.hid (keepU hg3 (row_lt P.out) (by omega) P.out); replace O := Go.Lib.hid (keepU hg3 (row_lt O.out) (by omega) O.out); replace Z := Go.Lib.hid (keepU hg3 (row_lt Z.out) (by omega) Z.out); replace F := Go.Lib.hid (keepU hg3 (row_lt F.out) (by omega) F.out)
      replace hB := Go.Lib.hid (hB.out.grown hg3 hB.out.size (fun q hq => by cases hq; omega))
      replace V := Go.Lib.hid hM3
      clear hg3 hM3
      go_roundw
      case rel => exact ⟨k + 1, by omega, by go_num, by rw [hap.out]; exact V.out, O.out, P.out, Z.out, F.out, hB.out⟩
      case measure => simp [intOf]; omega
    · obtain rfl : k = L.length := by omega
      rw [List.take_length, hval] at V
      have hkd : decide ((L.length : Int) < (L.length : Int)) = false := by simp
      replace O := Go.Lib.hid O; replace Z := Go.Lib.hid Z; replace V := Go.Lib.hid V; replace hB := Go.Lib.hid hB
      clear P
      go_wp2_with (first
        | ((with_reducible refine wlAt 69 rfl ?_); refine wpList_loadall rfl 34 (.tmp 7) rfl mb rfl 266 ((pairsL a c).foldl (unS s false a c) (plainSh (2 * (a : Int)) (c : Int))).at 34 _ Tryd.underlying34 rfl size_sheet V.out ?_)
        | ((with_reducible refine wlOp (.store 34 (.tmp 4) (.tmp 69)) rfl ?_); refine wpList_storeall rfl 34 (.tmp 4) (.tmp 69) rfl (w.heap.size + 1) rfl 266 Sh.zero.at ((pairsL a c).foldl (unS s false a c) (plainSh (2 * (a : Int)) (c : Int))).at rfl 34 size_sheet Z.out (fun i _ => Sh.one _ i) ?_; replace Z := Go.Lib.hid (row_set Z.out (vrow 266 ((pairsL a c).foldl (unS s false a c) (plainSh (2 * (a : Int)) (c : Int))).at)); replace hB := Go.Lib.hid (Below_setRow hB.out (show w.heap.size ≤ w.heap.size + 1 by omega) (vrow 266 ((pairsL a c).foldl (unS s false a c) (plainSh (2 * (a : Int)) (c : Int))).at))))
      exact ret_row2 Tryd.results31 (w.heap.size + 1) 266 ((pairsL a c).foldl (unS s false a c) (plainSh (2 * (a : Int)) (c : Int))).at 34 _ Tryd.underlying34 rfl size_sheet (.int .i64 0) rfl rfl rfl Z.out ⟨rfl, hB.out⟩
set_option maxHeartbeats 8000000 in
theorem specUn_h_lim (s : Sh) (w : World) (hf : s.fit) (hv : okI s = true) (a c : Nat) (ea0 : s.wide = a) (ec0 : s.high = c) (ha : 1 ≤ a ∧ a ≤ 8) (hc : 1 ≤ c ∧ c ≤ 8) (hbig : 8 < 2 * c) : Calls Tryd.prog 31 #[.agg s.row, .bool true] w fun o w' => o = .returned (.tuple #[.agg Sh.zero.row, .int .i64 3]) ∧ Below w.heap.size w w' := by
  have HO := Go.Lib.hid fun W h => ok_any s w.heap.size W h hf
  rw [← ok_eq s hf, hv] at HO
  clear hv
  have ea := Go.Lib.hid ea0; have ec := Go.Lib.hid ec0
  clear ea0 ec0
  have zz := zero_sheet
  have zf := zero_foldU
  have hw2 : IntKind.i8.wrap (2 * (a : Int)) = 2 * (a : Int) := IntWalk.i8_in _ (by omega)
  have hw3 : IntKind.i8.wrap (2 * (c : Int)) = 2 * (c : Int) := IntWalk.i8_in _ (by omega)
  have hg : decide ((8 : Int) < (a : Int)) = false := by simp; omega
  have hg2 : decide ((8 : Int) < 2 * (c : Int)) = true := by simp; omega
  have P : Hid (((w.alloc (.cells (vrow 266 s.at) 34)).alloc (.cells (vrow 266 Sh.zero.at) 34)).heap[w.heap.size]? = some (.cells (vrow 266 s.at) 34)) := (heap_past _ _ _ _ (by simp <;> omega) (heap_at _ _ _ (by simp)))
  have Z : Hid (((w.alloc (.cells (vrow 266 s.at) 34)).alloc (.cells (vrow 266 Sh.zero.at) 34)).heap[w.heap.size + 1]? = some (.cells (vrow 266 Sh.zero.at) 34)) := (heap_at _ _ _ (by simp))
  have hB : Hid (Below w.heap.size w ((w.alloc (.cells (vrow 266 s.at) 34)).alloc (.cells (vrow 266 Sh.zero.at) 34))) := Go.Lib.hid (((Below.refl w.heap.size w).alloc (by simp <;> omega) _).alloc (by simp <;> omega) _)
  go_enter Tryd.func31, Tryd.ntmps31
  go_wp2_with (first
    | go_skip
    | (go_at_call 50; (refine (HO.out _ P.out).mono ?_; rintro o w1 ⟨rfl, hb⟩; replace P := Go.Lib.hid (row_next hb P.out); replace Z := Go.Lib.hid (row_next hb Z.out); replace hB := Go.Lib.hid (below_next hB.out hb); clear hb))
    | ((with_reducible refine wlAt 14 rfl ?_); refine wpList_load1 rfl 22 (.tmp 13) rfl w.heap.size 0 rfl 266 s.at _ _ Tryd.underlying22 rfl P.out (by omega) ?_; rw [Sh.at_0, ea.out])
    | ((with_reducible refine wlAt 16 rfl ?_); refine wpList_built rfl 38 [(0, .tmp 14), (1, .tmp 15)] rfl [(0, .int .i8 a), (1, .bool true)] (by rfl) _ (built_foUD a true) ?_)
    | ((with_reducible refine wlOp (.store 38 (.tmp 6) (.tmp 16)) rfl ?_); refine wpList_storeall rfl 38 (.tmp 6) (.tmp 16) rfl _ rfl 3 (foAt 0 false 0) (foAt a true 0) rfl 38 size_fold (heap_at _ _ _ rfl) (fun i _ => foAt_oneU _ _ _ i) ?_; rw [setRow_at _ _ _ _ _ rfl]; have F := Go.Lib.hid (heap_at w1 (.cells (vrow 3 (foAt a true 0)) 38) _ rfl); have qP := row_lt P.out; replace P := Go.Lib.hid (heap_past w1 (.cells (vrow 3 (foAt a true 0)) 38) _ _ qP P.out); have qZ := row_lt Z.out; replace Z := Go.Lib.hid (heap_past w1 (.cells (vrow 3 (foAt a true 0)) 38) _ _ qZ Z.out); have hsz := hB.out.size; replace hB := Go.Lib.hid (hB.out.alloc hsz (.cells (vrow 3 (foAt a true 0)) 38)); obtain ⟨fb, hfb⟩ : ∃ z, w1.heap.size = z := ⟨_, rfl⟩; rw [hfb] at F qP qZ hsz ⊢; have hfl := row_lt F.out; generalize World.alloc w1 _ = W1 at P Z F hB hfl ⊢; clear hfb)
    | ((with_reducible refine wlAt 18 rfl ?_); refine wpList_load1 rfl 22 (.tmp 17) rfl w.heap.size 0 rfl 266 s.at _ _ Tryd.underlying22 rfl P.out (by omega) ?_; rw [Sh.at_0, ea.out])
    | ((with_reducible refine wlAt 21 rfl ?_); refine wpList_load1 rfl 22 (.tmp 20) rfl w.heap.size 1 rfl 266 s.at _ _ Tryd.underlying22 rfl P.out (by omega) ?_; rw [Sh.at_1, ec.out])
    | ((with_reducible refine wlAt 22 rfl ?_); refine wpList_built rfl 34 [(0, .tmp 19), (1, .tmp 21)] rfl [(0, .int .i8 (2 * (a : Int))), (1, .int .i8 (c : Int))] (by rfl) _ (built_plain (2 * (a : Int)) (c : Int)) ?_)
    | ((with_reducible refine wlOp (.store 34 (.tmp 7) (.tmp 22)) rfl ?_); refine wpList_storeall rfl 34 (.tmp 7) (.tmp 22) rfl _ rfl 266 Sh.zero.at (plainSh (2 * (a : Int)) (c : Int)).at rfl 34 size_sheet (heap_at _ _ _ rfl) (fun i _ => Sh.one _ i) ?_; rw [setRow_at _ _ _ _ _ rfl]; have V := Go.Lib.hid (heap_at W1 (.cells (vrow 266 (plainSh (2 * (a : Int)) (c : Int)).at) 34) _ rfl); replace P := Go.Lib.hid (heap_past W1 (.cells (vrow 266 (plainSh (2 * (a : Int)) (c : Int)).at) 34) _ _ (row_lt P.out) P.out); replace Z := Go.Lib.hid (heap_past W1 (.cells (vrow 266 (plainSh (2 * (a : Int)) (c : Int)).at) 34) _ _ (row_lt Z.out) Z.out); replace F := Go.Lib.hid (heap_past W1 (.cells (vrow 266 (plainSh (2 * (a : Int)) (c : Int)).at) 34) _ _ (row_lt F.out) F.out); have hsz1 := hB.out.size; replace hB := Go.Lib.hid (hB.out.alloc hsz1 (.cells (vrow 266 (plainSh (2 * (a : Int)) (c : Int)).at) 34)); obtain ⟨mb, hmb⟩ : ∃ z, W1.heap.size = z := ⟨_, rfl⟩; rw [hmb] at V hfl hsz1 ⊢; generalize World.alloc W1 _ = W2 at P Z F V hB ⊢; clear hmb)
    | ((with_reducible refine wlAt 25 rfl ?_); refine wpList_load1 rfl 22 (.tmp 24) rfl w.heap.size 1 rfl 266 s.at _ _ Tryd.underlying22 rfl P.out (by omega) ?_; rw [Sh.at_1, ec.out])
    | ((with_reducible refine wlOp (.store 22 (.tmp 26) (.tmp 25)) rfl ?_); refine wpList_store1 rfl 22 (.tmp 26) (.tmp 25) rfl fb 0 rfl 3 (foAt a true 0) (.int .i8 c) rfl 38 size_i8U F.out (by omega) rfl ?_; rw [fo_overU]; replace F := Go.Lib.hid (row_set F.out (vrow 3 (foAt c true 0))); replace P := Go.Lib.hid (row_set' (g := fb) (by omega) P.out (vrow 3 (foAt c true 0))); replace Z := Go.Lib.hid (row_set' (g := fb) (by omega) Z.out (vrow 3 (foAt c true 0))); replace V := Go.Lib.hid (row_set' (g := fb) (by omega) V.out (vrow 3 (foAt c true 0))); replace hB := Go.Lib.hid (Below_setRow hB.out hsz (vrow 3 (foAt c true 0))); generalize World.setRow W2 fb (vrow 3 (foAt c true 0)) = W3 at P Z F V hB ⊢)
    | ((with_reducible refine wlAt 28 rfl ?_); refine wpList_load1 rfl 22 (.tmp 27) rfl w.heap.size 0 rfl 266 s.at _ _ Tryd.underlying22 rfl P.out (by omega) ?_; rw [Sh.at_0, ea.out])
    | ((with_reducible refine wlAt 30 rfl ?_); refine wpList_load1 rfl 22 (.tmp 29) rfl w.heap.size 1 rfl 266 s.at _ _ Tryd.underlying22 rfl P.out (by omega) ?_; rw [Sh.at_1, ec.out])
    | ((with_reducible refine wlAt 32 rfl ?_); refine wpList_built rfl 34 [(0, .tmp 28), (1, .tmp 31)] rfl [(0, .int .i8 (a : Int)), (1, .int .i8 (2 * (c : Int)))] (by rfl) _ (built_plain (a : Int) (2 * (c : Int))) ?_)
    | ((with_reducible refine wlOp (.store 34 (.tmp 7) (.tmp 32)) rfl ?_); refine wpList_storeall rfl 34 (.tmp 7) (.tmp 32) rfl mb rfl 266 (plainSh (2 * (a : Int)) (c : Int)).at (plainSh (a : Int) (2 * (c : Int))).at rfl 34 size_sheet V.out (fun i _ => Sh.one _ i) ?_; replace V := Go.Lib.hid (row_set V.out (vrow 266 (plainSh (a : Int) (2 * (c : Int))).at)); replace P := Go.Lib.hid (row_set' (g := mb) (by omega) P.out (vrow 266 (plainSh (a : Int) (2 * (c : Int))).at)); replace Z := Go.Lib.hid (row_set' (g := mb) (by omega) Z.out (vrow 266 (plainSh (a : Int) (2 * (c : Int))).at)); replace F := Go.Lib.hid (row_set' (g := mb) (by omega) F.out (vrow 266 (plainSh (a : Int) (2 * (c : Int))).at)); replace hB := Go.Lib.hid (Below_setRow hB.out hsz1 (vrow 266 (plainSh (a : Int) (2 * (c : Int))).at)); generalize World.setRow W3 mb (vrow 266 (plainSh (a : Int) (2 * (c : Int))).at) = W4 at P Z F V hB ⊢)
    | ((with_reducible refine wlAt 34 rfl ?_); refine wpList_ld1 22 _ rfl (by first | exact want_n rfl | exact want_g _ _ _ rfl rfl rfl) (mb) 0 rfl 266 (plainSh (a : Int) (2 * (c : Int))).at _ rw_i8 V.out (by omega) ?_; rw [show (plainSh (a : Int) (2 * (c : Int))).at 0 = .int .i8 ((a : Int)) from rfl])
    | ((with_reducible refine wlAt 38 rfl ?_); refine wpList_ld1 22 _ rfl (by first | exact want_n rfl | exact want_g _ _ _ rfl rfl rfl) (mb) 1 rfl 266 (plainSh (a : Int) (2 * (c : Int))).at _ rw_i8 V.out (by omega) ?_; rw [show (plainSh (a : Int) (2 * (c : Int))).at 1 = .int .i8 (2 * (c : Int)) from rfl])
    | ((with_reducible refine wlAt 41 rfl ?_); refine wpList_built rfl 34 [] rfl [] (by rfl) _ built_zero ?_)
    | ((with_reducible refine wlOp (.store 34 (.tmp 4) (.tmp 41)) rfl ?_); refine wpList_storeall rfl 34 (.tmp 4) (.tmp 41) rfl (w.heap.size + 1) rfl 266 Sh.zero.at Sh.zero.at rfl 34 size_sheet Z.out (fun i _ => Sh.one _ i) ?_; replace Z := Go.Lib.hid (row_set Z.out (vrow 266 Sh.zero.at)); replace hB := Go.Lib.hid (Below_setRow hB.out (show w.heap.size ≤ w.heap.size + 1 by omega) (vrow 266 Sh.zero.at))))
  exact ret_row2 Tryd.results31 (w.heap.size + 1) 266 Sh.zero.at 34 _ Tryd.underlying34 rfl size_sheet (.int .i64 3) rfl rfl rfl Z.out ⟨rfl, hB.out⟩
set_option maxHeartbeats 8000000 in
theorem specUn_h_ok (s : Sh) (w : World) (hf : s.fit) (hv : okI s = true) (a c : Nat) (ea0 : s.wide = a) (ec0 : s.high = c) (ha : 1 ≤ a ∧ a ≤ 8) (hc : 1 ≤ c ∧ c ≤ 8) (hbig : 2 * c ≤ 8) : Calls Tryd.prog 31 #[.agg s.row, .bool true] w fun o w' => o = .returned (.tuple #[.agg ((pairsL a c).foldl (unS s true a c) (plainSh (a : Int) (2 * (c : Int)))).row, .int .i64 0]) ∧ Below w.heap.size w w' := by
  have HO := Go.Lib.hid fun W h => ok_any s w.heap.size W h hf
  rw [← ok_eq s hf, hv] at HO
  clear hv
  have ea := Go.Lib.hid ea0; have ec := Go.Lib.hid ec0
  have HSp := Go.Lib.hid fun W hs => spots_any s w.heap.size a c W hs ea0 ec0 (by omega) (by omega)
  have hLn : (cellsL a c).length = a * c := cellsL_length a c
  have hac : 1 ≤ (cellsL a c).length ∧ (cellsL a c).length ≤ 64 := by rw [hLn]; exact ⟨Nat.mul_le_mul ha.1 hc.1, Nat.mul_le_mul ha.2 hc.2⟩
  have hval : (cellsL a c).map (·.1) = pairsL a c := cellsL_val a c (by omega) c (by omega)
  have hmem : ∀ p ∈ (cellsL a c), p.1.1 < a ∧ p.1.2 < c := fun p hp => pairsL_mem (by rw [← hval]; exact List.mem_map_of_mem hp)
  generalize (cellsL a c) = L at *
  clear hLn
  clear ea0 ec0
  have zz := zero_sheet
  have zf := zero_foldU
  have hw2 : IntKind.i8.wrap (2 * (a : Int)) = 2 * (a : Int) := IntWalk.i8_in _ (by omega)
  have hw3 : IntKind.i8.wrap (2 * (c : Int)) = 2 * (c : Int) := IntWalk.i8_in _ (by omega)
  have hg : decide ((8 : Int) < (a : Int)) = false := by simp; omega
  have hg2 : decide ((8 : Int) < 2 * (c : Int)) = false := by simp; omega
  have P : Hid (((w.alloc (.cells (vrow 266 s.at) 34)).alloc (.cells (vrow 266 Sh.zero.at) 34)).heap[w.heap.size]? = some (.cells (vrow 266 s.at) 34)) := (heap_past _ _ _ _ (by simp <;> omega) (heap_at _ _ _ (by simp)))
  have Z : Hid (((w.alloc (.cells (vrow 266 s.at) 34)).alloc (.cells (vrow 266 Sh.zero.at) 34)).heap[w.heap.size + 1]? = some (.cells (vrow 266 Sh.zero.at) 34)) := (heap_at _ _ _ (by simp))
  have hB : Hid (Below w.heap.size w ((w.alloc (.cells (vrow 266 s.at) 34)).alloc (.cells (vrow 266 Sh.zero.at) 34))) := Go.Lib.hid (((Below.refl w.heap.size w).alloc (by simp <;> omega) _).alloc (by simp <;> omega) _)
  go_enter Tryd.func31, Tryd.ntmps31
  go_wp2_with (first
    | go_skip
    | (go_at_call 50; (refine (HO.out _ P.out).mono ?_; rintro o w1 ⟨rfl, hb⟩; replace P := Go.Lib.hid (row_next hb P.out); replace Z := Go.Lib.hid (row_next hb Z.out); replace hB := Go.Lib.hid (below_next hB.out hb); clear hb))
    | ((with_reducible refine wlAt 14 rfl ?_); refine wpList_load1 rfl 22 (.tmp 13) rfl w.heap.size 0 rfl 266 s.at _ _ Tryd.underlying22 rfl P.out (by omega) ?_; rw [Sh.at_0, ea.out])
    | ((with_reducible refine wlAt 16 rfl ?_); refine wpList_built rfl 38 [(0, .tmp 14), (1, .tmp 15)] rfl [(0, .int .i8 a), (1, .bool true)] (by rfl) _ (built_foUD a true) ?_)
    | ((with_reducible refine wlOp (.store 38 (.tmp 6) (.tmp 16)) rfl ?_); refine wpList_storeall rfl 38 (.tmp 6) (.tmp 16) rfl _ rfl 3 (foAt 0 false 0) (foAt a true 0) rfl 38 size_fold (heap_at _ _ _ rfl) (fun i _ => foAt_oneU _ _ _ i) ?_; rw [setRow_at _ _ _ _ _ rfl]; have F := Go.Lib.hid (heap_at w1 (.cells (vrow 3 (foAt a true 0)) 38) _ rfl); have qP := row_lt P.out; replace P := Go.Lib.hid (heap_past w1 (.cells (vrow 3 (foAt a true 0)) 38) _ _ qP P.out); have qZ := row_lt Z.out; replace Z := Go.Lib.hid (heap_past w1 (.cells (vrow 3 (foAt a true 0)) 38) _ _ qZ Z.out); have hsz := hB.out.size; replace hB := Go.Lib.hid (hB.out.alloc hsz (.cells (vrow 3 (foAt a true 0)) 38)); obtain ⟨fb, hfb⟩ : ∃ z, w1.heap.size = z := ⟨_, rfl⟩; rw [hfb] at F qP qZ hsz ⊢; have hfl := row_lt F.out; generalize World.alloc w1 _ = W1 at P Z F hB hfl ⊢; clear hfb)
    | ((with_reducible refine wlAt 18 rfl ?_); refine wpList_load1 rfl 22 (.tmp 17) rfl w.heap.size 0 rfl 266 s.at _ _ Tryd.underlying22 rfl P.out (by omega) ?_; rw [Sh.at_0, ea.out])
    | ((with_reducible refine wlAt 21 rfl ?_); refine wpList_load1 rfl 22 (.tmp 20) rfl w.heap.size 1 rfl 266 s.at _ _ Tryd.underlying22 rfl P.out (by omega) ?_; rw [Sh.at_1, ec.out])
    | ((with_reducible refine wlAt 22 rfl ?_); refine wpList_built rfl 34 [(0, .tmp 19), (1, .tmp 21)] rfl [(0, .int .i8 (2 * (a : Int))), (1, .int .i8 (c : Int))] (by rfl) _ (built_plain (2 * (a : Int)) (c : Int)) ?_)
    | ((with_reducible refine wlOp (.store 34 (.tmp 7) (.tmp 22)) rfl ?_); refine wpList_storeall rfl 34 (.tmp 7) (.tmp 22) rfl _ rfl 266 Sh.zero.at (plainSh (2 * (a : Int)) (c : Int)).at rfl 34 size_sheet (heap_at _ _ _ rfl) (fun i _ => Sh.one _ i) ?_; rw [setRow_at _ _ _ _ _ rfl]; have V := Go.Lib.hid (heap_at W1 (.cells (vrow 266 (plainSh (2 * (a : Int)) (c : Int)).at) 34) _ rfl); replace P := Go.Lib.hid (heap_past W1 (.cells (vrow 266 (plainSh (2 * (a : Int)) (c : Int)).at) 34) _ _ (row_lt P.out) P.out); replace Z := Go.Lib.hid (heap_past W1 (.cells (vrow 266 (plainSh (2 * (a : Int)) (c : Int)).at) 34) _ _ (row_lt Z.out) Z.out); replace F := Go.Lib.hid (heap_past W1 (.cells (vrow 266 (plainSh (2 * (a : Int)) (c : Int)).at) 34) _ _ (row_lt F.out) F.out); have hsz1 := hB.out.size; replace hB := Go.Lib.hid (hB.out.alloc hsz1 (.cells (vrow 266 (plainSh (2 * (a : Int)) (c : Int)).at) 34)); obtain ⟨mb, hmb⟩ : ∃ z, W1.heap.size = z := ⟨_, rfl⟩; rw [hmb] at V hfl hsz1 ⊢; generalize World.alloc W1 _ = W2 at P Z F V hB ⊢; clear hmb)
    | ((with_reducible refine wlAt 25 rfl ?_); refine wpList_load1 rfl 22 (.tmp 24) rfl w.heap.size 1 rfl 266 s.at _ _ Tryd.underlying22 rfl P.out (by omega) ?_; rw [Sh.at_1, ec.out])
    | ((with_reducible refine wlOp (.store 22 (.tmp 26) (.tmp 25)) rfl ?_); refine wpList_store1 rfl 22 (.tmp 26) (.tmp 25) rfl fb 0 rfl 3 (foAt a true 0) (.int .i8 c) rfl 38 size_i8U F.out (by omega) rfl ?_; rw [fo_overU]; replace F := Go.Lib.hid (row_set F.out (vrow 3 (foAt c true 0))); replace P := Go.Lib.hid (row_set' (g := fb) (by omega) P.out (vrow 3 (foAt c true 0))); replace Z := Go.Lib.hid (row_set' (g := fb) (by omega) Z.out (vrow 3 (foAt c true 0))); replace V := Go.Lib.hid (row_set' (g := fb) (by omega) V.out (vrow 3 (foAt c true 0))); replace hB := Go.Lib.hid (Below_setRow hB.out hsz (vrow 3 (foAt c true 0))); generalize World.setRow W2 fb (vrow 3 (foAt c true 0)) = W3 at P Z F V hB ⊢)
    | ((with_reducible refine wlAt 28 rfl ?_); refine wpList_load1 rfl 22 (.tmp 27) rfl w.heap.size 0 rfl 266 s.at _ _ Tryd.underlying22 rfl P.out (by omega) ?_; rw [Sh.at_0, ea.out])
    | ((with_reducible refine wlAt 30 rfl ?_); refine wpList_load1 rfl 22 (.tmp 29) rfl w.heap.size 1 rfl 266 s.at _ _ Tryd.underlying22 rfl P.out (by omega) ?_; rw [Sh.at_1, ec.out])
    | ((with_reducible refine wlAt 32 rfl ?_); refine wpList_built rfl 34 [(0, .tmp 28), (1, .tmp 31)] rfl [(0, .int .i8 (a : Int)), (1, .int .i8 (2 * (c : Int)))] (by rfl) _ (built_plain (a : Int) (2 * (c : Int))) ?_)
    | ((with_reducible refine wlOp (.store 34 (.tmp 7) (.tmp 32)) rfl ?_); refine wpList_storeall rfl 34 (.tmp 7) (.tmp 32) rfl mb rfl 266 (plainSh (2 * (a : Int)) (c : Int)).at (plainSh (a : Int) (2 * (c : Int))).at rfl 34 size_sheet V.out (fun i _ => Sh.one _ i) ?_; replace V := Go.Lib.hid (row_set V.out (vrow 266 (plainSh (a : Int) (2 * (c : Int))).at)); replace P := Go.Lib.hid (row_set' (g := mb) (by omega) P.out (vrow 266 (plainSh (a : Int) (2 * (c : Int))).at)); replace Z := Go.Lib.hid (row_set' (g := mb) (by omega) Z.out (vrow 266 (plainSh (a : Int) (2 * (c : Int))).at)); replace F := Go.Lib.hid (row_set' (g := mb) (by omega) F.out (vrow 266 (plainSh (a : Int) (2 * (c : Int))).at)); replace hB := Go.Lib.hid (Below_setRow hB.out hsz1 (vrow 266 (plainSh (a : Int) (2 * (c : Int))).at)); generalize World.setRow W3 mb (vrow 266 (plainSh (a : Int) (2 * (c : Int))).at) = W4 at P Z F V hB ⊢)
    | ((with_reducible refine wlAt 34 rfl ?_); refine wpList_ld1 22 _ rfl (by first | exact want_n rfl | exact want_g _ _ _ rfl rfl rfl) (mb) 0 rfl 266 (plainSh (a : Int) (2 * (c : Int))).at _ rw_i8 V.out (by omega) ?_; rw [show (plainSh (a : Int) (2 * (c : Int))).at 0 = .int .i8 ((a : Int)) from rfl])
    | ((with_reducible refine wlAt 38 rfl ?_); refine wpList_ld1 22 _ rfl (by first | exact want_n rfl | exact want_g _ _ _ rfl rfl rfl) (mb) 1 rfl 266 (plainSh (a : Int) (2 * (c : Int))).at _ rw_i8 V.out (by omega) ?_; rw [show (plainSh (a : Int) (2 * (c : Int))).at 1 = .int .i8 (2 * (c : Int)) from rfl])
    | (go_at_call 71; (refine (HSp.out _ P.out).mono ?_; rintro e w5 ⟨v, rfl, hO, hb⟩; have ngb := hb.size; have nV := row_lt V.out; replace P := Go.Lib.hid (row_next hb P.out); replace F := Go.Lib.hid (row_next hb F.out); replace Z := Go.Lib.hid (row_next hb Z.out); replace V := Go.Lib.hid (row_next hb V.out); replace hB := Go.Lib.hid (below_next hB.out hb); obtain ⟨g, cap, f, rfl, hg, hcap, hO2, hf2⟩ := hO.row (by omega); have O := Go.Lib.hid hO2; have HF := Go.Lib.hid hf2; clear hO hO2 hf2 hb ngb)))
  have nmb : w.heap.size + 1 < mb ∧ fb < mb ∧ w.heap.size + 1 < fb ∧ mb < g := by omega
  go_loopw [9] (fun iv wr => ∃ k : Nat, k ≤ L.length ∧ iv = .int .i64 k ∧ wr.heap[mb]? = some (.cells (vrow 266 (((L.take k).map (·.1)).foldl (unS s true a c) (plainSh (a : Int) (2 * (c : Int)))).at) 34) ∧ wr.heap[g]? = some (.cells (vrow (cap * 2) f) 111) ∧ wr.heap[w.heap.size]? = some (.cells (vrow 266 s.at) 34) ∧ wr.heap[w.heap.size + 1]? = some (.cells (vrow 266 Sh.zero.at) 34) ∧ wr.heap[fb]? = some (.cells (vrow 3 (foAt c true 0)) 38) ∧ Below w.heap.size w wr) (fun iv _ => L.length - (intOf iv).toNat)
  case atStart => exact ⟨0, by omega, rfl, V.out, O.out, P.out, Z.out, F.out, hB.out⟩
  case round =>
    clear V O P Z F hB
    obtain ⟨k, hk, rfl, V, O, P, Z, F, hB⟩ := hrel
    have hsz3 := hB.size
    by_cases hlt : k < L.length
    · have hf2 := HF.out k hlt
      obtain ⟨⟨⟨i, j⟩, hi, hj⟩, hp⟩ : ∃ p, L[k]'hlt = p := ⟨_, rfl⟩
      have hin := hmem _ (List.getElem_mem hlt)
      obtain ⟨i2, ei⟩ : ∃ z, i = z := ⟨_, rfl⟩
      obtain ⟨j2, ej⟩ : ∃ z, 2 * c - 1 - j = z := ⟨_, rfl⟩
      have hap : ((L.take (k + 1)).map (·.1)).foldl (unS s true a c) (plainSh (a : Int) (2 * (c : Int))) = copyS s (copyS s (((L.take k).map (·.1)).foldl (unS s true a c) (plainSh (a : Int) (2 * (c : Int)))) i j i j) i2 j2 i j := by
        rw [List.take_succ_eq_append_getElem hlt, hp, List.map_append, List.foldl_append, ← ei, ← ej]
        rfl
      rw [hp] at hf2 hin
      clear hp
      replace hi : i < 8 := hi
      replace hj : j < 8 := hj
      obtain ⟨hia, hjc⟩ : i < a ∧ j < c := hin
      obtain ⟨fx0, fx1⟩ : f (k * 2) = .int .i8 i ∧ f (k * 2 + 1) = .int .i8 j := hf2
      have hR : vrow 2 (fun q => f (k * 2 + q)) = vrow 2 (spAt i j) := vrow_ext _ _ _ fun q hq => by
        have hq2 : q = 0 ∨ q = 1 := by omega
        rcases hq2 with rfl | rfl
        · rw [Nat.add_zero, fx0]; rfl
        · rw [fx1]; rfl
      have HR := Go.Lib.hid hR; have hap := Go.Lib.hid hap
      clear hR fx0 fx1
      generalize ((L.take k).map (·.1)).foldl (unS s true a c) (plainSh (a : Int) (2 * (c : Int))) = T at *
      have hi2 : i2 < 8 := by omega
      have hj2 : j2 < 8 := by omega
      have HPt := Go.Lib.hid fun w => (lpart_true (c : Int) 0 i j w (by omega) (by omega) (by omega) : Calls _ _ _ _ _)
      have eP : spAt (i : Int) (2 * (c : Int) - 1 - j) = spAt (i2 : Int) (j2 : Int) := by rw [show (2 * (c : Int) - 1 - j) = (j2 : Int) by omega, show (i : Int) = (i2 : Int) by omega]
      rw [eP] at HPt
      clear eP ei ej
      have hC1 := Go.Lib.hid fun w0 (hs : w0.heap[w.heap.size]? = some (.cells (vrow 266 s.at) 34)) (ht : w0.heap[mb]? = some (.cells (vrow 266 T.at) 34)) => copyC s T w.heap.size mb i j i j w0 (by omega) hs ht hi hj hi hj
      have hC2 := Go.Lib.hid fun w0 (hs : w0.heap[w.heap.size]? = some (.cells (vrow 266 s.at) 34)) (ht : w0.heap[mb]? = some (.cells (vrow 266 (copyS s T i j i j).at) 34)) => copyC s (copyS s T i j i j) w.heap.size mb i2 j2 i j w0 (by omega) hs ht hi2 hj2 hi hj
      generalize (copyS s T i j i j) = T1 at *
      replace P := Go.Lib.hid P; replace O := Go.Lib.hid O; replace Z := Go.Lib.hid Z; replace V := Go.Lib.hid V; replace F := Go.Lib.hid F; replace hB := Go.Lib.hid hB
      have hkI : (k : Int) < (L.length : Int) := by omega
      have hk0 : (0 : Int) ≤ (k : Int) := by omega
      have hkd : decide ((k : Int) < (L.length : Int)) = true := by simpa using hkI
      go_wp2
      refine region_qt 8 (by kernel_rfl) (by kernel_rfl) ?_
      intro Wa hW
      rw [hW] at hB P O Z V F
      clear hW
      simp only [List.take_succ_cons, List.take_zero, List.drop_succ_cons, List.drop_zero]
      have O' := Go.Lib.hid (cls_row' O.out); have F' := Go.Lib.hid (cls_row' F.out)
      (repeat (first
        | go_big_quiet_skip
        | (refine wpQuiet_loadmid 111 _ rfl (by first | exact want_n rfl | exact want_g _ _ _ rfl rfl rfl) g (k * 2) rfl (cap * 2) 2 f _ rw_spot size_spot O'.out (by omega) ?_; rw [HR.out]; simp only [Act.put, List.setIfInBounds_toArray, List.set_cons_succ, List.set_cons_zero])
        | (refine wpQuiet_step (fun K hK => ?_); go_simp; simp only [hkI, hk0, if_true]; go_simp; refine hK _ ?_; clear hK K)
        | go_big_quiet_step (fail)))
      refine wpQuiet_nil ?_
      intro Wb hb
      replace P := Go.Lib.hid (row_next hb P.out); replace O := Go.Lib.hid (row_next hb O.out); replace Z := Go.Lib.hid (row_next hb Z.out); replace V := Go.Lib.hid (row_next hb V.out); replace F := Go.Lib.hid (row_next hb F.out); replace hB := Go.Lib.hid (below_next hB.out hb)
      clear hb O' F'
      go_wp2_with (first
        | (go_at_call 72; (refine (hC1.out _ (by exact P.out) (by exact V.out)).mono ?_; rintro e Wc ⟨⟨rWc, rfl⟩, hg3, hM3⟩)))
      replace P := Go.Lib.hid (keepU hg3 (row_lt P.out) (by omega) P.out); replace O := Go.Lib.hid (keepU hg3 (row_lt O.out) (by omega) O.out); replace Z := Go.Lib.hid (keepU hg3 (row_lt Z.out) (by omega) Z.out); replace F := Go.Lib.hid (keepU hg3 (row_lt F.out) (by omega) F.out)
      replace hB := Go.Lib.hid (hB.out.grown hg3 hB.out.size (fun q hq => by cases hq; omega))
      replace V := Go.Lib.hid hM3
      clear hg3 hM3
      go_wp2
      refine region_qt 10 (by kernel_rfl) (by kernel_rfl) ?_
      intro Wd hW
      rw [hW] at hB P O Z V F
      clear hW
      simp only [List.take_succ_cons, List.take_zero, List.drop_succ_cons, List.drop_zero]
      have O' := Go.Lib.hid (cls_row' O.out); have F' := Go.Lib.hid (cls_row' F.out)
      (repeat (first
        | go_big_quiet_skip
        | (refine wpQuiet_loadmid 111 _ rfl (by first | exact want_n rfl | exact want_g _ _ _ rfl rfl rfl) g (k * 2) rfl (cap * 2) 2 f _ rw_spot size_spot O'.out (by omega) ?_; rw [HR.out]; simp only [Act.put, List.setIfInBounds_toArray, List.set_cons_succ, List.set_cons_zero])
        | (refine wpQuiet_loadmid 38 _ rfl (by first | exact want_n rfl | exact want_g _ _ _ rfl rfl rfl) fb 0 rfl 3 3 (foAt c true 0) _ rw_fold size_fold F'.out (by omega) ?_; simp only [Nat.zero_add]; simp only [Act.put, List.setIfInBounds_toArray, List.set_cons_succ, List.set_cons_zero])
        | go_big_quiet_step ((go_at_call 73; exact cls_call _ (fun w hw => HPt.out w)))
        | (refine wpQuiet_step (fun K hK => ?_); go_simp; simp only [hkI, hk0, if_true]; go_simp; refine hK _ ?_; clear hK K)
        | go_big_quiet_step (fail)))
      refine wpQuiet_nil ?_
      intro We hb
      replace P := Go.Lib.hid (row_next hb P.out); replace O := Go.Lib.hid (row_next hb O.out); replace Z := Go.Lib.hid (row_next hb Z.out); replace V := Go.Lib.hid (row_next hb V.out); replace F := Go.Lib.hid (row_next hb F.out); replace hB := Go.Lib.hid (below_next hB.out hb)
      clear hb O' F'
      go_wp2_with (first
        | (go_at_call 72; (refine (hC2.out _ (by exact P.out) (by exact V.out)).mono ?_; rintro e Wf ⟨⟨rWf, rfl⟩, hg3, hM3⟩)))
      replace P := Go.Lib.hid (keepU hg3 (row_lt P.out) (by omega) P.out); replace O := Go.Lib.hid (keepU hg3 (row_lt O.out) (by omega) O.out); replace Z := Go.Lib.hid (keepU hg3 (row_lt Z.out) (by omega) Z.out); replace F := Go.Lib.hid (keepU hg3 (row_lt F.out) (by omega) F.out)
      replace hB := Go.Lib.hid (hB.out.grown hg3 hB.out.size (fun q hq => by cases hq; omega))
      replace V := Go.Lib.hid hM3
      clear hg3 hM3
      go_roundw
      case rel => exact ⟨k + 1, by omega, by go_num, by rw [hap.out]; exact V.out, O.out, P.out, Z.out, F.out, hB.out⟩
      case measure => simp [intOf]; omega
    · obtain rfl : k = L.length := by omega
      rw [List.take_length, hval] at V
      have hkd : decide ((L.length : Int) < (L.length : Int)) = false := by simp
      replace O := Go.Lib.hid O; replace Z := Go.Lib.hid Z; replace V := Go.Lib.hid V; replace hB := Go.Lib.hid hB
      clear P
      go_wp2_with (first
        | ((with_reducible refine wlAt 69 rfl ?_); refine wpList_loadall rfl 34 (.tmp 7) rfl mb rfl 266 ((pairsL a c).foldl (unS s true a c) (plainSh (a : Int) (2 * (c : Int)))).at 34 _ Tryd.underlying34 rfl size_sheet V.out ?_)
        | ((with_reducible refine wlOp (.store 34 (.tmp 4) (.tmp 69)) rfl ?_); refine wpList_storeall rfl 34 (.tmp 4) (.tmp 69) rfl (w.heap.size + 1) rfl 266 Sh.zero.at ((pairsL a c).foldl (unS s true a c) (plainSh (a : Int) (2 * (c : Int)))).at rfl 34 size_sheet Z.out (fun i _ => Sh.one _ i) ?_; replace Z := Go.Lib.hid (row_set Z.out (vrow 266 ((pairsL a c).foldl (unS s true a c) (plainSh (a : Int) (2 * (c : Int)))).at)); replace hB := Go.Lib.hid (Below_setRow hB.out (show w.heap.size ≤ w.heap.size + 1 by omega) (vrow 266 ((pairsL a c).foldl (unS s true a c) (plainSh (a : Int) (2 * (c : Int)))).at))))
      exact ret_row2 Tryd.results31 (w.heap.size + 1) 266 ((pairsL a c).foldl (unS s true a c) (plainSh (a : Int) (2 * (c : Int)))).at 34 _ Tryd.underlying34 rfl size_sheet (.int .i64 0) rfl rfl rfl Z.out ⟨rfl, hB.out⟩
end Go.Proofs.YtmcpaangofdmpaaDoor
