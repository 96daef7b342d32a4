import Derived.Deep.RegionHeld3
import Derived.Test.YthbhckalkkameaaDoorPartS
import Derived.Test.YthbhckalkkameaaDoorHalfC
import Derived.Test.YthbhckalkkameaaDoorCopy
import Derived.Test.YthbhckalkkameaaDoorSpots
namespace Go.Proofs.YthbhckalkkameaaDoor
open Go.RowKit
set_option maxRecDepth 100000
set_option linter.unusedVariables false
set_option linter.unusedSimpArgs false
set_option maxHeartbeats 4000000 in
theorem specH_err (s : Sh) (ax : Int) (d : Bool) (p : Int) (w : World) (hf : s.fit) (hax : -128 ≤ ax ∧ ax ≤ 127) (hap : -128 ≤ p ∧ p ≤ 127) (c : Int) (hc : askC (okI s) (foldOk s ax d p) true = c) (h0 : (c != 0) = true) : Calls Tryd.prog 21 #[.agg s.row, .agg #[.int .i8 ax, .bool d, .int .i8 p]] w fun e w' => e = .returned (.tuple #[.agg Sh.zero.row, .int .i64 c]) ∧ Below w.heap.size w w' := by
  have HA := Go.Lib.hid fun W h => asked_any s w.heap.size ax d p true W h hf hax hap
  have e1 : askC (okB s) (foldOk s ax d p) true = c := by rw [← ok_eq s hf]; exact hc
  rw [e1, fo_vrow] at HA
  rw [fo_vrow]
  clear hc e1
  have zz := zero_sheet
  have hB : Hid (Below w.heap.size w (((w.alloc (.cells (vrow 266 s.at) 39)).alloc (.cells (vrow 3 (foAt ax d p)) 41)).alloc (.cells (vrow 266 Sh.zero.at) 39))) := Go.Lib.hid ((((Below.refl w.heap.size w).alloc (by simp <;> omega) _).alloc (by simp <;> omega) _).alloc (by simp <;> omega) _)
  have P : Hid ((((w.alloc (.cells (vrow 266 s.at) 39)).alloc (.cells (vrow 3 (foAt ax d p)) 41)).alloc (.cells (vrow 266 Sh.zero.at) 39)).heap[w.heap.size]? = some (.cells (vrow 266 s.at) 39)) := heap_past _ _ _ _ (by simp <;> omega) (heap_past _ _ _ _ (by simp <;> omega) (heap_at _ _ _ (by simp)))
  have F : Hid ((((w.alloc (.cells (vrow 266 s.at) 39)).alloc (.cells (vrow 3 (foAt ax d p)) 41)).alloc (.cells (vrow 266 Sh.zero.at) 39)).heap[w.heap.size + 1]? = some (.cells (vrow 3 (foAt ax d p)) 41)) := heap_past _ _ _ _ (by simp <;> omega) (heap_at _ _ _ (by simp))
  have Z : Hid ((((w.alloc (.cells (vrow 266 s.at) 39)).alloc (.cells (vrow 3 (foAt ax d p)) 41)).alloc (.cells (vrow 266 Sh.zero.at) 39)).heap[w.heap.size + 2]? = some (.cells (vrow 266 Sh.zero.at) 39)) := heap_at _ _ _ (by simp)
  go_enter Tryd.func21, Tryd.ntmps21
  go_wp2_with (first
    | go_skip
    | ((with_reducible refine wlAt 10 rfl ?_); refine wpList_loadall rfl 41 (.tmp 3) rfl (w.heap.size + 1) rfl 3 (foAt ax d p) 41 _ Tryd.underlying41 rfl size_fold F.out ?_)
    | (go_at_call 52; (refine (HA.out _ P.out).mono ?_); rintro o w1 ⟨rfl, hb⟩; replace P := Go.Lib.hid (row_next hb P.out); replace F := Go.Lib.hid (row_next hb F.out); replace Z := Go.Lib.hid (row_next hb Z.out); replace hB := Go.Lib.hid (below_next hB.out hb); clear hb)
    | ((with_reducible refine wlOp (.store 39 (.tmp 4) (.tmp 14)) rfl ?_); refine wpList_storeall rfl 39 (.tmp 4) (.tmp 14) rfl (w.heap.size + 2) rfl 266 Sh.zero.at Sh.zero.at rfl 39 size_sheet Z.out (fun i _ => Sh.one _ i) ?_; replace Z := Go.Lib.hid (row_set Z.out (vrow 266 Sh.zero.at)); replace hB := Go.Lib.hid (Below_setRow hB.out (show w.heap.size ≤ w.heap.size + 2 by omega) (vrow 266 Sh.zero.at)))
    | fail)
  refine ret_row2 Tryd.results21 (w.heap.size + 2) 266 Sh.zero.at 39 _ Tryd.underlying39 rfl size_sheet (.int .i64 c) rfl rfl rfl Z.out ⟨rfl, hB.out⟩
set_option maxHeartbeats 8000000 in
theorem specH_false (s : Sh) (ax p : Int) (w : World) (hf : s.fit) (hax : -128 ≤ ax ∧ ax ≤ 127) (hap : -128 ≤ p ∧ p ≤ 127) (hc : askC (okI s) (foldOk s ax false p) true = 0) (a c : Nat) (hA : ax = a) (hC : s.high = c) (ha : 1 ≤ a ∧ a ≤ 8) (hcc : 1 ≤ c ∧ c ≤ 8) : Calls Tryd.prog 21 #[.agg s.row, .agg #[.int .i8 ax, .bool false, .int .i8 p]] w fun e w' => e = .returned (.tuple #[.agg (arrS s (fun i j => i) (fun i j => j) (plainSh a c) (pairsL a c)).row, .int .i64 0]) ∧ Below w.heap.size w w' := by
  have HA := Go.Lib.hid fun W h => asked_any s w.heap.size ax false p true W h hf hax hap
  have e1 : askC (okB s) (foldOk s ax false p) true = 0 := by rw [← ok_eq s hf]; exact hc
  rw [e1, fo_vrow] at HA
  rw [fo_vrow]
  clear hc e1
  have HX : Hid (ax = a) := Go.Lib.hid hA
  have HQ : Hid (s.high = c) := Go.Lib.hid hC
  clear hA hC
  have hLn : (cellsL a c).length = a * c := cellsL_length a c
  have hac : 1 ≤ (cellsL a c).length ∧ (cellsL a c).length ≤ 64 := by rw [hLn]; exact ⟨Nat.mul_le_mul ha.1 hcc.1, Nat.mul_le_mul ha.2 hcc.2⟩
  have hval : (cellsL a c).map (·.1) = pairsL a c := cellsL_val a c (by omega) c (by omega)
  have hmem : ∀ p ∈ (cellsL a c), p.1.1 < a ∧ p.1.2 < c := fun p hp => pairsL_mem (by rw [← hval]; exact List.mem_map_of_mem hp)
  have HSp := Go.Lib.hid fun mb w hs => spots_any (plainSh a c) mb a c w hs rfl rfl (by omega) (by omega)
  generalize (cellsL a c) = L at *
  clear hLn
  have zz := zero_sheet
  have hB : Hid (Below w.heap.size w (((w.alloc (.cells (vrow 266 s.at) 39)).alloc (.cells (vrow 3 (foAt ax false p)) 41)).alloc (.cells (vrow 266 Sh.zero.at) 39))) := Go.Lib.hid ((((Below.refl w.heap.size w).alloc (by simp <;> omega) _).alloc (by simp <;> omega) _).alloc (by simp <;> omega) _)
  have P : Hid ((((w.alloc (.cells (vrow 266 s.at) 39)).alloc (.cells (vrow 3 (foAt ax false p)) 41)).alloc (.cells (vrow 266 Sh.zero.at) 39)).heap[w.heap.size]? = some (.cells (vrow 266 s.at) 39)) := heap_past _ _ _ _ (by simp <;> omega) (heap_past _ _ _ _ (by simp <;> omega) (heap_at _ _ _ (by simp)))
  have F : Hid ((((w.alloc (.cells (vrow 266 s.at) 39)).alloc (.cells (vrow 3 (foAt ax false p)) 41)).alloc (.cells (vrow 266 Sh.zero.at) 39)).heap[w.heap.size + 1]? = some (.cells (vrow 3 (foAt ax false p)) 41)) := heap_past _ _ _ _ (by simp <;> omega) (heap_at _ _ _ (by simp))
  have Z : Hid ((((w.alloc (.cells (vrow 266 s.at) 39)).alloc (.cells (vrow 3 (foAt ax false p)) 41)).alloc (.cells (vrow 266 Sh.zero.at) 39)).heap[w.heap.size + 2]? = some (.cells (vrow 266 Sh.zero.at) 39)) := heap_at _ _ _ (by simp)
  go_enter Tryd.func21, Tryd.ntmps21
  go_wp2_with (first
    | go_skip
    | ((with_reducible refine wlAt 10 rfl ?_); refine wpList_loadall rfl 41 (.tmp 3) rfl (w.heap.size + 1) rfl 3 (foAt ax false p) 41 _ Tryd.underlying41 rfl size_fold F.out ?_)
    | (go_at_call 52; (refine (HA.out _ P.out).mono ?_); rintro o w1 ⟨rfl, hb⟩; replace P := Go.Lib.hid (row_next hb P.out); replace F := Go.Lib.hid (row_next hb F.out); replace Z := Go.Lib.hid (row_next hb Z.out); replace hB := Go.Lib.hid (below_next hB.out hb); clear hb)
    | ((with_reducible refine wlAt 17 rfl ?_); refine wpList_load1 rfl 22 (.tmp 16) rfl (w.heap.size + 1) 0 rfl 3 (foAt ax false p) _ _ Tryd.underlying22 rfl F.out (by omega) ?_; rw [foAt_0, HX.out])
    | ((with_reducible refine wlAt 19 rfl ?_); refine wpList_load1 rfl 22 (.tmp 18) rfl w.heap.size 1 rfl 266 s.at _ _ Tryd.underlying22 rfl P.out (by omega) ?_; rw [Sh.at_1, HQ.out])
    | ((with_reducible refine wlAt 20 rfl ?_); refine wpList_built rfl 39 [(0, .tmp 17), (1, .tmp 19)] rfl [(0, .int .i8 a), (1, .int .i8 c)] (by rfl) _ (built_plain a c) ?_)
    | ((with_reducible refine wlOp (.store 39 (.tmp 7) (.tmp 20)) rfl ?_); refine wpList_storeall rfl 39 (.tmp 7) (.tmp 20) rfl _ rfl 266 Sh.zero.at (plainSh a c).at rfl 39 size_sheet (heap_at _ _ _ rfl) (fun i _ => Sh.one _ i) ?_; rw [setRow_at _ _ _ _ _ rfl]; have V := Go.Lib.hid (heap_at w1 (.cells (vrow 266 (plainSh a c).at) 39) _ rfl); have q1 := row_lt P.out; have q2 := row_lt F.out; have q3 := row_lt Z.out; replace P := Go.Lib.hid (heap_past _ (.cells (vrow 266 (plainSh a c).at) 39) _ _ q1 P.out); replace F := Go.Lib.hid (heap_past _ (.cells (vrow 266 (plainSh a c).at) 39) _ _ q2 F.out); replace Z := Go.Lib.hid (heap_past _ (.cells (vrow 266 (plainSh a c).at) 39) _ _ q3 Z.out); have hsz := hB.out.size; replace hB := Go.Lib.hid (hB.out.alloc hsz (.cells (vrow 266 (plainSh a c).at) 39)); generalize hmb : w1.heap.size = mb at V q1 q2 q3 hsz ⊢; generalize w1.alloc _ = W1 at P F Z V hB ⊢; clear hmb)
    | ((with_reducible refine wlAt 22 rfl ?_); refine wpList_load1 rfl 4 (.tmp 21) rfl (w.heap.size + 1) 1 rfl 3 (foAt ax false p) _ _ Tryd.underlying4 rfl F.out (by omega) ?_; rw [foAt_1])
    | (go_at_call 64; (refine (HSp.out _ _ V.out).mono ?_; rintro e w2 ⟨v, rfl, hO, hb⟩; have ngb := hb.size; have nV := row_lt V.out; replace P := Go.Lib.hid (row_next hb P.out); replace F := Go.Lib.hid (row_next hb F.out); replace Z := Go.Lib.hid (row_next hb Z.out); replace V := Go.Lib.hid (row_next hb V.out); replace hB := Go.Lib.hid (below_next hB.out hb); obtain ⟨g, cap, f, rfl, hg, hcap, hO2, hf2⟩ := hO.row (by omega); have O := Go.Lib.hid hO2; have HF := Go.Lib.hid hf2; clear hO hO2 hf2 hb ngb)))
  obtain ⟨wo, hwo⟩ : ∃ wo : World, wo = w2 := ⟨_, rfl⟩
  rw [← hwo] at P Z V hB O ⊢
  clear hwo w2 F
  go_loopw [9] (fun iv wr => ∃ k : Nat, k ≤ L.length ∧ iv = .int .i64 k ∧ wr.heap[mb]? = some (.cells (vrow 266 (arrS s (fun i j => i) (fun i j => j) (plainSh a c) ((L.take k).map (·.1))).at) 39) ∧ wr.heap[g]? = some (.cells (vrow (cap * 2) f) 36) ∧ wr.heap[w.heap.size]? = some (.cells (vrow 266 s.at) 39) ∧ wr.heap[w.heap.size + 2]? = some (.cells (vrow 266 Sh.zero.at) 39) ∧ Below w.heap.size w wr) (fun iv _ => L.length - (intOf iv).toNat)
  case atStart => exact ⟨0, by omega, rfl, V.out, O.out, P.out, Z.out, hB.out⟩
  case round =>
    clear V O P Z hB
    obtain ⟨k, hk, rfl, V, O, P, Z, hB⟩ := hrel
    have hsz3 := hB.size
    by_cases hlt : k < L.length
    · have hf2 := HF.out k hlt
      obtain ⟨⟨⟨i, j⟩, hi, hj⟩, hp⟩ : ∃ p, L[k]'hlt = p := ⟨_, rfl⟩
      have hin := hmem _ (List.getElem_mem hlt)
      have hap : (arrS s (fun i j => i) (fun i j => j) (plainSh a c) ((L.take (k + 1)).map (·.1))) = copyS s (arrS s (fun i j => i) (fun i j => j) (plainSh a c) ((L.take k).map (·.1))) i j i j := by
        rw [List.take_succ_eq_append_getElem hlt, hp]
        simp [arrS, List.foldl_append]
      rw [hp] at hf2 hin
      clear hp
      replace hi : i < 8 := hi
      replace hj : j < 8 := hj
      obtain ⟨hia, hjc⟩ : i < a ∧ j < c := hin
      obtain ⟨fx0, fx1⟩ : f (k * 2) = .int .i8 i ∧ f (k * 2 + 1) = .int .i8 j := hf2
      have hR : vrow 2 (fun q => f (k * 2 + q)) = vrow 2 (spAt i j) := vrow_ext _ _ _ fun q hq => by
        have hq2 : q = 0 ∨ q = 1 := by omega
        rcases hq2 with rfl | rfl
        · rw [Nat.add_zero, fx0]; rfl
        · rw [fx1]; rfl
      have HR := Go.Lib.hid hR; have hap := Go.Lib.hid hap
      clear hR fx0 fx1
      generalize (arrS s (fun i j => i) (fun i j => j) (plainSh a c) ((L.take k).map (·.1))) = T at *
      have hCC := Go.Lib.hid fun w0 (hs : w0.heap[w.heap.size]? = some (.cells (vrow 266 s.at) 39)) (ht : w0.heap[mb]? = some (.cells (vrow 266 T.at) 39)) => copyC s T w.heap.size mb i j i j w0 (by omega) hs ht hi hj (by omega) (by omega)
      replace P := Go.Lib.hid P; replace O := Go.Lib.hid O; replace Z := Go.Lib.hid Z; replace V := Go.Lib.hid V; replace hB := Go.Lib.hid hB
      have hkI : (k : Int) < (L.length : Int) := by omega
      have hk0 : (0 : Int) ≤ (k : Int) := by omega
      have hkd : decide ((k : Int) < (L.length : Int)) = true := by simpa using hkI
      go_wp2
      refine wp_region_still_tail 8 (by kernel_rfl) (by kernel_rfl) ?_
      simp only [List.take_succ_cons, List.take_zero, List.drop_succ_cons, List.drop_zero, World.drew_eq]
      repeat (first
        | (refine wpStill_loadmid rfl 36 (.tmp 37) rfl g (k * 2) rfl (cap * 2) 2 f 36 _ Tryd.underlying36 rfl size_spot O.out (by omega) ?_; rw [HR.out]; simp only [Act.put, List.setIfInBounds_toArray, List.set_cons_succ, List.set_cons_zero])
        | (refine wpStill_loadmid rfl 36 (.tmp 41) rfl g (k * 2) rfl (cap * 2) 2 f 36 _ Tryd.underlying36 rfl size_spot O.out (by omega) ?_; rw [HR.out]; simp only [Act.put, List.setIfInBounds_toArray, List.set_cons_succ, List.set_cons_zero])
        | still_step
        | (refine wpStill_step (fun K hK => ?_); go_simp; simp only [hkI, hk0, if_true]; go_simp; refine hK _ ?_; clear hK K))
      refine wpStill_nil ?_
      go_wp2_with (first
        | (go_at_call 65; (refine (hCC.out _ (by exact P.out) (by exact V.out)).mono ?_; rintro e w3 ⟨⟨r, rfl⟩, hg3, hM3⟩)))
      have P3 : w3.heap[w.heap.size]? = some (.cells (vrow 266 s.at) 39) := (hg3.block w.heap.size (by have := row_lt P.out; simpa using this) (by simp; omega)).trans P.out
      have O3 : w3.heap[g]? = some (.cells (vrow (cap * 2) f) 36) := (hg3.block g (by have := row_lt O.out; simpa using this) (by simp; omega)).trans O.out
      have Z3 : w3.heap[w.heap.size + 2]? = some (.cells (vrow 266 Sh.zero.at) 39) := (hg3.block (w.heap.size + 2) (by have := row_lt Z.out; simpa using this) (by simp; omega)).trans Z.out
      have B3 : Below w.heap.size w w3 := hB.out.drew.grown hg3 (by simpa using hsz3) (fun q hq => by cases hq; omega)
      go_roundw
      case rel => exact ⟨k + 1, by omega, by go_num, by rw [hap.out]; exact hM3, O3, P3, Z3, B3⟩
      case measure => simp [intOf]; omega
    · obtain rfl : k = L.length := by omega
      rw [List.take_length, hval] at V
      have hkd : decide ((L.length : Int) < (L.length : Int)) = false := by simp
      replace O := Go.Lib.hid O; replace Z := Go.Lib.hid Z; replace V := Go.Lib.hid V; replace hB := Go.Lib.hid hB
      clear P
      go_wp2_with (first
        | ((with_reducible refine wlAt 44 rfl ?_); refine wpList_loadall rfl 39 (.tmp 7) rfl _ rfl 266 (arrS s (fun i j => i) (fun i j => j) (plainSh a c) (pairsL a c)).at 39 _ Tryd.underlying39 rfl size_sheet V.out ?_)
        | ((with_reducible refine wlOp (.store 39 (.tmp 4) (.tmp 44)) rfl ?_); refine wpList_storeall rfl 39 (.tmp 4) (.tmp 44) rfl (w.heap.size + 2) rfl 266 Sh.zero.at (arrS s (fun i j => i) (fun i j => j) (plainSh a c) (pairsL a c)).at rfl 39 size_sheet Z.out (fun i _ => Sh.one _ i) ?_; replace Z := Go.Lib.hid (row_set Z.out (vrow 266 (arrS s (fun i j => i) (fun i j => j) (plainSh a c) (pairsL a c)).at)); replace hB := Go.Lib.hid (Below_setRow hB.out (show w.heap.size ≤ w.heap.size + 2 by omega) (vrow 266 (arrS s (fun i j => i) (fun i j => j) (plainSh a c) (pairsL a c)).at))))
      exact ret_row2 Tryd.results21 (w.heap.size + 2) 266 (arrS s (fun i j => i) (fun i j => j) (plainSh a c) (pairsL a c)).at 39 _ Tryd.underlying39 rfl size_sheet (.int .i64 0) rfl rfl rfl Z.out ⟨rfl, hB.out⟩
set_option maxHeartbeats 8000000 in
theorem specH_true (s : Sh) (ax p : Int) (w : World) (hf : s.fit) (hax : -128 ≤ ax ∧ ax ≤ 127) (hap : -128 ≤ p ∧ p ≤ 127) (hc : askC (okI s) (foldOk s ax true p) true = 0) (a c q : Nat) (hA : s.wide = a) (hC : ax = c) (hq : s.high = q) (ha : 1 ≤ a ∧ a ≤ 8) (hcc : 1 ≤ c ∧ c ≤ 8) : Calls Tryd.prog 21 #[.agg s.row, .agg #[.int .i8 ax, .bool true, .int .i8 p]] w fun e w' => e = .returned (.tuple #[.agg (arrS s (fun i j => i) (fun i j => j) (plainSh a c) (pairsL a c)).row, .int .i64 0]) ∧ Below w.heap.size w w' := by
  have HA := Go.Lib.hid fun W h => asked_any s w.heap.size ax true p true W h hf hax hap
  have e1 : askC (okB s) (foldOk s ax true p) true = 0 := by rw [← ok_eq s hf]; exact hc
  rw [e1, fo_vrow] at HA
  rw [fo_vrow]
  clear hc e1
  have HX : Hid (ax = c) := Go.Lib.hid hC
  have HQ : Hid (s.high = q) := Go.Lib.hid hq
  have HWd : Hid (s.wide = a) := Go.Lib.hid hA
  clear hq
  clear hA hC
  have hLn : (cellsL a c).length = a * c := cellsL_length a c
  have hac : 1 ≤ (cellsL a c).length ∧ (cellsL a c).length ≤ 64 := by rw [hLn]; exact ⟨Nat.mul_le_mul ha.1 hcc.1, Nat.mul_le_mul ha.2 hcc.2⟩
  have hval : (cellsL a c).map (·.1) = pairsL a c := cellsL_val a c (by omega) c (by omega)
  have hmem : ∀ p ∈ (cellsL a c), p.1.1 < a ∧ p.1.2 < c := fun p hp => pairsL_mem (by rw [← hval]; exact List.mem_map_of_mem hp)
  have HSp := Go.Lib.hid fun mb w hs => spots_any (plainSh a c) mb a c w hs rfl rfl (by omega) (by omega)
  generalize (cellsL a c) = L at *
  clear hLn
  have zz := zero_sheet
  have hB : Hid (Below w.heap.size w (((w.alloc (.cells (vrow 266 s.at) 39)).alloc (.cells (vrow 3 (foAt ax true p)) 41)).alloc (.cells (vrow 266 Sh.zero.at) 39))) := Go.Lib.hid ((((Below.refl w.heap.size w).alloc (by simp <;> omega) _).alloc (by simp <;> omega) _).alloc (by simp <;> omega) _)
  have P : Hid ((((w.alloc (.cells (vrow 266 s.at) 39)).alloc (.cells (vrow 3 (foAt ax true p)) 41)).alloc (.cells (vrow 266 Sh.zero.at) 39)).heap[w.heap.size]? = some (.cells (vrow 266 s.at) 39)) := heap_past _ _ _ _ (by simp <;> omega) (heap_past _ _ _ _ (by simp <;> omega) (heap_at _ _ _ (by simp)))
  have F : Hid ((((w.alloc (.cells (vrow 266 s.at) 39)).alloc (.cells (vrow 3 (foAt ax true p)) 41)).alloc (.cells (vrow 266 Sh.zero.at) 39)).heap[w.heap.size + 1]? = some (.cells (vrow 3 (foAt ax true p)) 41)) := heap_past _ _ _ _ (by simp <;> omega) (heap_at _ _ _ (by simp))
  have Z : Hid ((((w.alloc (.cells (vrow 266 s.at) 39)).alloc (.cells (vrow 3 (foAt ax true p)) 41)).alloc (.cells (vrow 266 Sh.zero.at) 39)).heap[w.heap.size + 2]? = some (.cells (vrow 266 Sh.zero.at) 39)) := heap_at _ _ _ (by simp)
  go_enter Tryd.func21, Tryd.ntmps21
  go_wp2_with (first
    | go_skip
    | ((with_reducible refine wlAt 10 rfl ?_); refine wpList_loadall rfl 41 (.tmp 3) rfl (w.heap.size + 1) rfl 3 (foAt ax true p) 41 _ Tryd.underlying41 rfl size_fold F.out ?_)
    | (go_at_call 52; (refine (HA.out _ P.out).mono ?_); rintro o w1 ⟨rfl, hb⟩; replace P := Go.Lib.hid (row_next hb P.out); replace F := Go.Lib.hid (row_next hb F.out); replace Z := Go.Lib.hid (row_next hb Z.out); replace hB := Go.Lib.hid (below_next hB.out hb); clear hb)
    | ((with_reducible refine wlAt 17 rfl ?_); refine wpList_load1 rfl 22 (.tmp 16) rfl (w.heap.size + 1) 0 rfl 3 (foAt ax true p) _ _ Tryd.underlying22 rfl F.out (by omega) ?_; rw [foAt_0, HX.out])
    | ((with_reducible refine wlAt 19 rfl ?_); refine wpList_load1 rfl 22 (.tmp 18) rfl w.heap.size 1 rfl 266 s.at _ _ Tryd.underlying22 rfl P.out (by omega) ?_; rw [Sh.at_1, HQ.out])
    | ((with_reducible refine wlAt 20 rfl ?_); refine wpList_built rfl 39 [(0, .tmp 17), (1, .tmp 19)] rfl [(0, .int .i8 c), (1, .int .i8 q)] (by rfl) _ (built_plain c q) ?_)
    | ((with_reducible refine wlOp (.store 39 (.tmp 7) (.tmp 20)) rfl ?_); refine wpList_storeall rfl 39 (.tmp 7) (.tmp 20) rfl _ rfl 266 Sh.zero.at (plainSh c q).at rfl 39 size_sheet (heap_at _ _ _ rfl) (fun i _ => Sh.one _ i) ?_; rw [setRow_at _ _ _ _ _ rfl]; have V := Go.Lib.hid (heap_at w1 (.cells (vrow 266 (plainSh c q).at) 39) _ rfl); have q1 := row_lt P.out; have q2 := row_lt F.out; have q3 := row_lt Z.out; replace P := Go.Lib.hid (heap_past _ (.cells (vrow 266 (plainSh c q).at) 39) _ _ q1 P.out); replace F := Go.Lib.hid (heap_past _ (.cells (vrow 266 (plainSh c q).at) 39) _ _ q2 F.out); replace Z := Go.Lib.hid (heap_past _ (.cells (vrow 266 (plainSh c q).at) 39) _ _ q3 Z.out); have hsz := hB.out.size; replace hB := Go.Lib.hid (hB.out.alloc hsz (.cells (vrow 266 (plainSh c q).at) 39)); generalize hmb : w1.heap.size = mb at V q1 q2 q3 hsz ⊢; generalize w1.alloc _ = W1 at P F Z V hB ⊢; clear hmb)
    | ((with_reducible refine wlAt 22 rfl ?_); refine wpList_load1 rfl 4 (.tmp 21) rfl (w.heap.size + 1) 1 rfl 3 (foAt ax true p) _ _ Tryd.underlying4 rfl F.out (by omega) ?_; rw [foAt_1])
    | ((with_reducible refine wlAt 24 rfl ?_); refine wpList_load1 rfl 22 (.tmp 23) rfl w.heap.size 0 rfl 266 s.at _ _ Tryd.underlying22 rfl P.out (by omega) ?_; rw [Sh.at_0, HWd.out])
    | ((with_reducible refine wlAt 26 rfl ?_); refine wpList_load1 rfl 22 (.tmp 25) rfl (w.heap.size + 1) 0 rfl 3 (foAt ax true p) _ _ Tryd.underlying22 rfl F.out (by omega) ?_; rw [foAt_0, HX.out])
    | ((with_reducible refine wlAt 27 rfl ?_); refine wpList_built rfl 39 [(0, .tmp 24), (1, .tmp 26)] rfl [(0, .int .i8 a), (1, .int .i8 c)] (by rfl) _ (built_plain a c) ?_)
    | ((with_reducible refine wlOp (.store 39 (.tmp 7) (.tmp 27)) rfl ?_); refine wpList_storeall rfl 39 (.tmp 7) (.tmp 27) rfl mb rfl 266 (plainSh c q).at (plainSh a c).at rfl 39 size_sheet V.out (fun i _ => Sh.one _ i) ?_; replace P := Go.Lib.hid (row_set' (g := mb) (by omega) P.out (vrow 266 (plainSh a c).at)); replace F := Go.Lib.hid (row_set' (g := mb) (by omega) F.out (vrow 266 (plainSh a c).at)); replace Z := Go.Lib.hid (row_set' (g := mb) (by omega) Z.out (vrow 266 (plainSh a c).at)); replace V := Go.Lib.hid (row_set V.out (vrow 266 (plainSh a c).at)); replace hB := Go.Lib.hid (Below_setRow hB.out hsz (vrow 266 (plainSh a c).at)); generalize World.setRow W1 _ _ = W3 at P F Z V hB ⊢)
    | (go_at_call 64; (refine (HSp.out _ _ V.out).mono ?_; rintro e w2 ⟨v, rfl, hO, hb⟩; have ngb := hb.size; have nV := row_lt V.out; replace P := Go.Lib.hid (row_next hb P.out); replace F := Go.Lib.hid (row_next hb F.out); replace Z := Go.Lib.hid (row_next hb Z.out); replace V := Go.Lib.hid (row_next hb V.out); replace hB := Go.Lib.hid (below_next hB.out hb); obtain ⟨g, cap, f, rfl, hg, hcap, hO2, hf2⟩ := hO.row (by omega); have O := Go.Lib.hid hO2; have HF := Go.Lib.hid hf2; clear hO hO2 hf2 hb ngb)))
  obtain ⟨wo, hwo⟩ : ∃ wo : World, wo = w2 := ⟨_, rfl⟩
  rw [← hwo] at P Z V hB O ⊢
  clear hwo w2 F
  go_loopw [9] (fun iv wr => ∃ k : Nat, k ≤ L.length ∧ iv = .int .i64 k ∧ wr.heap[mb]? = some (.cells (vrow 266 (arrS s (fun i j => i) (fun i j => j) (plainSh a c) ((L.take k).map (·.1))).at) 39) ∧ wr.heap[g]? = some (.cells (vrow (cap * 2) f) 36) ∧ wr.heap[w.heap.size]? = some (.cells (vrow 266 s.at) 39) ∧ wr.heap[w.heap.size + 2]? = some (.cells (vrow 266 Sh.zero.at) 39) ∧ Below w.heap.size w wr) (fun iv _ => L.length - (intOf iv).toNat)
  case atStart => exact ⟨0, by omega, rfl, V.out, O.out, P.out, Z.out, hB.out⟩
  case round =>
    clear V O P Z hB
    obtain ⟨k, hk, rfl, V, O, P, Z, hB⟩ := hrel
    have hsz3 := hB.size
    by_cases hlt : k < L.length
    · have hf2 := HF.out k hlt
      obtain ⟨⟨⟨i, j⟩, hi, hj⟩, hp⟩ : ∃ p, L[k]'hlt = p := ⟨_, rfl⟩
      have hin := hmem _ (List.getElem_mem hlt)
      have hap : (arrS s (fun i j => i) (fun i j => j) (plainSh a c) ((L.take (k + 1)).map (·.1))) = copyS s (arrS s (fun i j => i) (fun i j => j) (plainSh a c) ((L.take k).map (·.1))) i j i j := by
        rw [List.take_succ_eq_append_getElem hlt, hp]
        simp [arrS, List.foldl_append]
      rw [hp] at hf2 hin
      clear hp
      replace hi : i < 8 := hi
      replace hj : j < 8 := hj
      obtain ⟨hia, hjc⟩ : i < a ∧ j < c := hin
      obtain ⟨fx0, fx1⟩ : f (k * 2) = .int .i8 i ∧ f (k * 2 + 1) = .int .i8 j := hf2
      have hR : vrow 2 (fun q => f (k * 2 + q)) = vrow 2 (spAt i j) := vrow_ext _ _ _ fun q hq => by
        have hq2 : q = 0 ∨ q = 1 := by omega
        rcases hq2 with rfl | rfl
        · rw [Nat.add_zero, fx0]; rfl
        · rw [fx1]; rfl
      have HR := Go.Lib.hid hR; have hap := Go.Lib.hid hap
      clear hR fx0 fx1
      generalize (arrS s (fun i j => i) (fun i j => j) (plainSh a c) ((L.take k).map (·.1))) = T at *
      have hCC := Go.Lib.hid fun w0 (hs : w0.heap[w.heap.size]? = some (.cells (vrow 266 s.at) 39)) (ht : w0.heap[mb]? = some (.cells (vrow 266 T.at) 39)) => copyC s T w.heap.size mb i j i j w0 (by omega) hs ht hi hj (by omega) (by omega)
      replace P := Go.Lib.hid P; replace O := Go.Lib.hid O; replace Z := Go.Lib.hid Z; replace V := Go.Lib.hid V; replace hB := Go.Lib.hid hB
      have hkI : (k : Int) < (L.length : Int) := by omega
      have hk0 : (0 : Int) ≤ (k : Int) := by omega
      have hkd : decide ((k : Int) < (L.length : Int)) = true := by simpa using hkI
      go_wp2
      refine wp_region_still_tail 8 (by kernel_rfl) (by kernel_rfl) ?_
      simp only [List.take_succ_cons, List.take_zero, List.drop_succ_cons, List.drop_zero, World.drew_eq]
      repeat (first
        | (refine wpStill_loadmid rfl 36 (.tmp 37) rfl g (k * 2) rfl (cap * 2) 2 f 36 _ Tryd.underlying36 rfl size_spot O.out (by omega) ?_; rw [HR.out]; simp only [Act.put, List.setIfInBounds_toArray, List.set_cons_succ, List.set_cons_zero])
        | (refine wpStill_loadmid rfl 36 (.tmp 41) rfl g (k * 2) rfl (cap * 2) 2 f 36 _ Tryd.underlying36 rfl size_spot O.out (by omega) ?_; rw [HR.out]; simp only [Act.put, List.setIfInBounds_toArray, List.set_cons_succ, List.set_cons_zero])
        | still_step
        | (refine wpStill_step (fun K hK => ?_); go_simp; simp only [hkI, hk0, if_true]; go_simp; refine hK _ ?_; clear hK K))
      refine wpStill_nil ?_
      go_wp2_with (first
        | (go_at_call 65; (refine (hCC.out _ (by exact P.out) (by exact V.out)).mono ?_; rintro e w3 ⟨⟨r, rfl⟩, hg3, hM3⟩)))
      have P3 : w3.heap[w.heap.size]? = some (.cells (vrow 266 s.at) 39) := (hg3.block w.heap.size (by have := row_lt P.out; simpa using this) (by simp; omega)).trans P.out
      have O3 : w3.heap[g]? = some (.cells (vrow (cap * 2) f) 36) := (hg3.block g (by have := row_lt O.out; simpa using this) (by simp; omega)).trans O.out
      have Z3 : w3.heap[w.heap.size + 2]? = some (.cells (vrow 266 Sh.zero.at) 39) := (hg3.block (w.heap.size + 2) (by have := row_lt Z.out; simpa using this) (by simp; omega)).trans Z.out
      have B3 : Below w.heap.size w w3 := hB.out.drew.grown hg3 (by simpa using hsz3) (fun q hq => by cases hq; omega)
      go_roundw
      case rel => exact ⟨k + 1, by omega, by go_num, by rw [hap.out]; exact hM3, O3, P3, Z3, B3⟩
      case measure => simp [intOf]; omega
    · obtain rfl : k = L.length := by omega
      rw [List.take_length, hval] at V
      have hkd : decide ((L.length : Int) < (L.length : Int)) = false := by simp
      replace O := Go.Lib.hid O; replace Z := Go.Lib.hid Z; replace V := Go.Lib.hid V; replace hB := Go.Lib.hid hB
      clear P
      go_wp2_with (first
        | ((with_reducible refine wlAt 44 rfl ?_); refine wpList_loadall rfl 39 (.tmp 7) rfl _ rfl 266 (arrS s (fun i j => i) (fun i j => j) (plainSh a c) (pairsL a c)).at 39 _ Tryd.underlying39 rfl size_sheet V.out ?_)
        | ((with_reducible refine wlOp (.store 39 (.tmp 4) (.tmp 44)) rfl ?_); refine wpList_storeall rfl 39 (.tmp 4) (.tmp 44) rfl (w.heap.size + 2) rfl 266 Sh.zero.at (arrS s (fun i j => i) (fun i j => j) (plainSh a c) (pairsL a c)).at rfl 39 size_sheet Z.out (fun i _ => Sh.one _ i) ?_; replace Z := Go.Lib.hid (row_set Z.out (vrow 266 (arrS s (fun i j => i) (fun i j => j) (plainSh a c) (pairsL a c)).at)); replace hB := Go.Lib.hid (Below_setRow hB.out (show w.heap.size ≤ w.heap.size + 2 by omega) (vrow 266 (arrS s (fun i j => i) (fun i j => j) (plainSh a c) (pairsL a c)).at))))
      exact ret_row2 Tryd.results21 (w.heap.size + 2) 266 (arrS s (fun i j => i) (fun i j => j) (plainSh a c) (pairsL a c)).at 39 _ Tryd.underlying39 rfl size_sheet (.int .i64 0) rfl rfl rfl Z.out ⟨rfl, hB.out⟩
end Go.Proofs.YthbhckalkkameaaDoor
