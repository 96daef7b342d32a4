import Derived.Test.YtlbafaedmagmfaaDoorPCntI
import Derived.Test.YtlbafaedmagmfaaDoorLawCnt
import Derived.Test.YtlbafaedmagmfaaDoorChos
namespace Go.Proofs.YtlbafaedmagmfaaDoor
open Go.RowKit
set_option maxRecDepth 100000
set_option linter.unusedVariables false
set_option linter.unusedSimpArgs false
theorem info_i64 : (Tryd.prog.info? 2).map (fun i => (i.zero, i.size, i.bytes)) = some (some (.int .i64 0), 1, 8) := by kernel_rfl
/-- the inks below k that are seen in the cells L -/
def inkT (p : Pic) (L : List Sp8) (k : Nat) : List Nat := (List.range k).filter fun i => decide (0 < cnt p ((i : Int) + 1) L)
def ivals (l : List Nat) : List Value := l.map fun (i : Nat) => Value.int .i64 (i : Int)
theorem inkT_step (p : Pic) (L : List Sp8) (k : Nat) : inkT p L (k + 1) = inkT p L k ++ if decide (0 < cnt p ((k : Int) + 1) L) then [k] else [] := by
  unfold inkT
  rw [List.range_succ, List.filter_append]
  congr 1
  cases h : decide (0 < cnt p ((k : Int) + 1) L) <;> simp [List.filter_cons, h]
theorem inkT_len (p : Pic) (L : List Sp8) (k : Nat) : (inkT p L k).length ≤ k := by
  unfold inkT
  exact Nat.le_trans (List.length_filter_le _ _) (by simp)
theorem ivals_app (l m : List Nat) : ivals (l ++ m) = ivals l ++ ivals m := by simp [ivals]
set_option maxHeartbeats 4000000 in
theorem links_any (p : Pic) (b a c : Nat) (w : World) (hs : w.heap[b]? = some (.cells p.row 72)) (ea : p.wide = a) (ec : p.high = c) (ha : 1 ≤ a ∧ a ≤ 8) (hc : 1 ≤ c ∧ c ≤ 8) :
    Calls Tryd.prog 103 #[.pointer (some ⟨b, 0, none⟩)] w fun e w' => ∃ v, e = .returned v ∧ w'.ownsRow w.heap.size 2 1 v (inkT p (cellsL a c) 3).length (ivals (inkT p (cellsL a c) 3)) ∧ Below w.heap.size w w' := by
  obtain ⟨i0, hi, hz0, hz1, hz2⟩ := info_parts info_i64
  have HC := Go.Lib.hid fun (n : Int) w hs => lcount_any p b a c n w hs ea ec ha hc
  have hcl : ∀ n, cnt p n (cellsL a c) ≤ 64 := fun n => Nat.le_trans (cnt_le _ _ _) (by rw [cellsL_length]; exact Nat.mul_le_mul ha.2 hc.2)
  have HCL := Go.Lib.hid hcl
  generalize cellsL a c = L at *
  have hbl := row_lt hs
  clear ea ec hcl
  go_enter Tryd.func103, Tryd.ntmps103
  go_wp2
  have O0 : (w.alloc (.cells #[] 2)).ownsRow w.heap.size 2 1 (.slice (some ⟨w.heap.size, 0, none⟩) 0 0) 0 [] := World.ownsRow_made w #[] 0 (Nat.le_refl _) (by decide) rfl
  have P0 : (w.alloc (.cells #[] 2)).heap[b]? = some (.cells p.row 72) := heap_past _ _ _ _ hbl hs
  have B0 : Below w.heap.size w (w.alloc (.cells #[] 2)) := (Below.refl w.heap.size w).alloc (Nat.le_refl _) _
  generalize w.alloc _ = W0 at P0 O0 B0 ⊢
  clear hs
  go_loopw [3, 4] (fun v iv wr => ∃ k : Nat, k ≤ 3 ∧ iv = .int .i64 k ∧ wr.ownsRow w.heap.size 2 1 v (inkT p L k).length (ivals (inkT p L k)) ∧ wr.heap[b]? = some (.cells p.row 72) ∧ Below w.heap.size w wr) (fun _ iv _ => 3 - (intOf iv).toNat)
  case atStart => exact ⟨0, by omega, rfl, by simpa [inkT, ivals] using O0, P0, B0⟩
  case round =>
    clear P0 O0 B0
    obtain ⟨k, hk, rfl, O, P, hB⟩ := hrel
    by_cases hlt : k < 3
    · have hst := inkT_step p L k
      have hle := inkT_len p L k
      have hc64 := HCL.out ((k : Int) + 1)
      have HK := Go.Lib.hid fun w hs => HC.out ((k : Int) + 1) w hs
      have HST := Go.Lib.hid hst
      clear hst
      generalize cnt p ((k : Int) + 1) L = N at *
      generalize inkT p L k = M at *
      replace P := Go.Lib.hid P; replace O := Go.Lib.hid O; replace hB := Go.Lib.hid hB
      have hkI : (k : Int) < 3 := by omega
      have hk0 : (0 : Int) ≤ (k : Int) := by omega
      have hkd : decide ((k : Int) < 3) = true := by simpa using hkI
      cases hq : decide (0 < N)
      · have hqI : decide ((0 : Int) < (N : Int)) = false := by simp at hq ⊢; omega
        have HS2 := Go.Lib.hid (show inkT p L (k + 1) = M by rw [HST.out, hq, if_neg (by simp), List.append_nil])
        go_wp2_with (first
          | go_skip
          | (go_at_call 151; (refine (HK.out _ P.out).mono ?_); rintro o w3 ⟨rfl, hb⟩; replace P := Go.Lib.hid (row_next hb P.out); replace O := Go.Lib.hid (O.out.kept (grown_next (grown_refl _ none) hb) (by cases hv : Value.ownBlock _ <;> simp)); replace hB := Go.Lib.hid (below_next hB.out hb); clear hb))
        go_roundw
        case rel => exact ⟨k + 1, by omega, by go_num, by rw [HS2.out]; exact O.out, P.out, hB.out⟩
        case measure => simp [intOf]; omega
      · have hqI : decide ((0 : Int) < (N : Int)) = true := by simp at hq ⊢; omega
        have HS2 := Go.Lib.hid (show inkT p L (k + 1) = M ++ [k] by rw [HST.out, hq, if_pos rfl])
        go_wp2_with (first
          | go_skip
          | (go_at_call 151; (refine (HK.out _ P.out).mono ?_); rintro o w3 ⟨rfl, hb⟩; replace P := Go.Lib.hid (row_next hb P.out); replace O := Go.Lib.hid (O.out.kept (grown_next (grown_refl _ none) hb) (by cases hv : Value.ownBlock _ <;> simp)); replace hB := Go.Lib.hid (below_next hB.out hb); clear hb)
          | (at_builtin; refine wpList_append_own _ rfl (.tmp 16) (.tmp 18) 140 rfl w.heap.size 2 i0 (.int .i64 0) 1 8 Tryd.underlying140 hi hz0 hz1 hz2 rfl (by decide) _ _ _ rfl (O.out.alloc _) ⟨w3.heap.size, 0, none⟩ 1 1 [.int .i64 k] rfl rfl (World.news_of_block (heap_at _ _ _ rfl)) (by simp [Value.oneCell']) (by simp only [maxLen]; omega) (by omega) (by have := hB.out.size; simp; omega) ?_; intro v' w4 hown' hgrow _))
        have hov := O.out.lt
        have lp := row_lt P.out; have lb := hB.out.size
        have P1 : w4.heap[b]? = some (.cells p.row 72) := (hgrow.block _ (by simp; omega) (fun e => by have := (hov _ e.symm).1; omega)).trans (heap_past _ _ _ _ lp P.out)
        have B1 : Below w.heap.size w w4 := (hB.out.alloc hB.out.size _).grown hgrow (by simp; omega) (fun q hq => (hov q hq).1)
        go_roundw
        case rel => exact ⟨k + 1, by omega, by go_num, by rw [HS2.out, List.length_append, ivals_app]; exact hown', P1, B1⟩
        case measure => simp [intOf]; omega
    · obtain rfl : k = 3 := by omega
      replace O := Go.Lib.hid O; replace hB := Go.Lib.hid hB
      go_wp2
      go_ret
      exact ⟨_, rfl, O.out, hB.out⟩
set_option maxHeartbeats 4000000 in
theorem iinks_any (p : Pic) (a c : Nat) (w : World) (ea : p.wide = a) (ec : p.high = c) (ha : a ≤ 8) (hc : c ≤ 8) (hk : ∀ i, i < 64 → 0 ≤ p.ink i ∧ p.ink i ≤ 4) :
    Calls Tryd.prog 106 #[.agg p.row] w fun e w' => ∃ v, e = .returned v ∧ w'.ownsRow w.heap.size 2 1 v (inkT p (cellsL a c) 3).length (ivals (inkT p (cellsL a c) 3)) ∧ Below w.heap.size w w' := by
  obtain ⟨i0, hi, hz0, hz1, hz2⟩ := info_parts info_i64
  have zz := zero_a5
  have HN := Go.Lib.hid fun w => counts_any p a c w ea ec ha hc hk
  have hcl : ∀ n, cnt p n (cellsL a c) ≤ 64 := fun n => Nat.le_trans (cnt_le _ _ _) (by rw [cellsL_length]; exact Nat.mul_le_mul ha hc)
  have HCL := Go.Lib.hid hcl
  generalize cellsL a c = L at *
  clear ea ec hcl hk
  have P : Hid ((w.alloc (.cells (vrow 66 p.at) 72)).heap[w.heap.size]? = some (.cells (vrow 66 p.at) 72)) := heap_at _ _ _ rfl
  have hB : Hid (Below w.heap.size w (w.alloc (.cells (vrow 66 p.at) 72))) := (Below.refl w.heap.size w).alloc (by simp <;> omega) _
  go_enter Tryd.func106, Tryd.ntmps106
  go_wp2_with (first
    | go_skip
    | ((with_reducible refine wlAt 6 rfl ?_); refine wpList_ldm 72 _ rfl (by first | exact want_n rfl | exact want_g _ _ _ rfl rfl rfl) (w.heap.size) _ rfl 66 66 p.at _ rw_pic size_pic P.out (by omega) ?_; rw [pic_row])
    | (go_at_call 153; (refine (HN.out _).mono ?_; rintro o w2 ⟨rfl, hb⟩; replace hB := Go.Lib.hid (below_next hB.out hb); clear hb P))
    | ((with_reducible refine wlOp (.store 190 (.tmp 4) (.tmp 7)) rfl ?_); refine wpList_storeall rfl 190 (.tmp 4) (.tmp 7) rfl _ rfl 5 (fun _ => .int .i64 0) (cntF p L) rfl 190 size_a5 (heap_at _ _ _ rfl) (fun _ _ => rfl) ?_; rw [setRow_at _ _ _ _ _ rfl]))
  have hsz := hB.out.size
  have D0 : (w2.alloc (.cells (vrow 5 (cntF p L)) 190)).heap[w2.heap.size]? = some (.cells (vrow 5 (cntF p L)) 190) := heap_at _ _ _ rfl
  have B0 : Below w.heap.size w (w2.alloc (.cells (vrow 5 (cntF p L)) 190)) := hB.out.alloc hB.out.size _
  have O0 : (w2.alloc (.cells (vrow 5 (cntF p L)) 190)).ownsRow (w2.heap.size + 1) 2 1 (.slice none 0 0) 0 [] := World.ownsRow_nil _ _ _ _
  have hN0 : w2.heap.size + 1 ≤ (w2.alloc (.cells (vrow 5 (cntF p L)) 190)).heap.size := by simp
  generalize w2.alloc _ = W0 at D0 B0 O0 hN0 ⊢
  generalize w2.heap.size = g at D0 O0 hsz hN0 ⊢
  clear hB
  go_loopw [3, 5, 8] (fun v _ iv wr => ∃ k : Nat, k ≤ 3 ∧ iv = .int .i64 k ∧ wr.ownsRow (g + 1) 2 1 v (inkT p L k).length (ivals (inkT p L k)) ∧ wr.heap[g]? = some (.cells (vrow 5 (cntF p L)) 190) ∧ g + 1 ≤ wr.heap.size ∧ Below w.heap.size w wr) (fun _ _ iv _ => 3 - (intOf iv).toNat)
  case atStart => exact ⟨0, by omega, rfl, by simpa [inkT, ivals] using O0, D0, hN0, B0⟩
  case round =>
    clear D0 O0 B0 hN0
    obtain ⟨k, hk, rfl, O, D, hN, hB⟩ := hrel
    by_cases hlt : k < 3
    · have hst := inkT_step p L k
      have hle := inkT_len p L k
      have hc64 := HCL.out ((k : Int) + 1)
      have hcf : cntF p L (k + 1) = .int .i64 (cnt p ((k : Int) + 1) L) := by unfold cntF; rw [show (((k + 1 : Nat)) : Int) = (k : Int) + 1 by omega]
      have HCF := Go.Lib.hid hcf
      have HST := Go.Lib.hid hst
      clear hst hcf
      generalize cnt p ((k : Int) + 1) L = N at *
      generalize inkT p L k = M at *
      replace D := Go.Lib.hid D; replace O := Go.Lib.hid O; replace hB := Go.Lib.hid hB
      have hkI : (k : Int) < 3 := by omega
      have hk0 : (0 : Int) ≤ (k : Int) := by omega
      have hkd : decide ((k : Int) < 3) = true := by simpa using hkI
      cases hq : decide (0 < N)
      · have hqI : decide ((0 : Int) < (N : Int)) = false := by simp at hq ⊢; omega
        have HS2 := Go.Lib.hid (show inkT p L (k + 1) = M by rw [HST.out, hq, if_neg (by simp), List.append_nil])
        go_wp2_with (first
          | go_skip
          | ((with_reducible refine wlAt 14 rfl ?_); refine wpList_ld1 2 _ rfl (by first | exact want_n rfl | exact want_g _ _ _ rfl rfl rfl) g (k + 1) rfl 5 (cntF p L) _ prw_i64 D.out (by omega) ?_; rw [HCF.out]))
        go_roundw
        case rel => exact ⟨k + 1, by omega, by go_num, by rw [HS2.out]; exact O.out, D.out, hN, hB.out⟩
        case measure => simp [intOf]; omega
      · have hqI : decide ((0 : Int) < (N : Int)) = true := by simp at hq ⊢; omega
        have HS2 := Go.Lib.hid (show inkT p L (k + 1) = M ++ [k] by rw [HST.out, hq, if_pos rfl])
        go_wp2_with (first
          | go_skip
          | ((with_reducible refine wlAt 14 rfl ?_); refine wpList_ld1 2 _ rfl (by first | exact want_n rfl | exact want_g _ _ _ rfl rfl rfl) g (k + 1) rfl 5 (cntF p L) _ prw_i64 D.out (by omega) ?_; rw [HCF.out])
          | (at_builtin; refine wpList_append_own _ rfl (.tmp 16) (.tmp 18) 140 rfl (g + 1) 2 i0 (.int .i64 0) 1 8 Tryd.underlying140 hi hz0 hz1 hz2 rfl (by decide) _ _ _ rfl (O.out.alloc _) ⟨wr.heap.size, 0, none⟩ 1 1 [.int .i64 k] rfl rfl (World.news_of_block (heap_at _ _ _ rfl)) (by simp [Value.oneCell']) (by simp only [maxLen]; omega) (by omega) (by simp; omega) ?_; intro v' w4 hown' hgrow _))
        have hov := O.out.lt
        have ld := row_lt D.out; have lb := hB.out.size
        have D1 : w4.heap[g]? = some (.cells (vrow 5 (cntF p L)) 190) := (hgrow.block _ (by simp; omega) (fun e => by have := (hov _ e.symm).1; omega)).trans (heap_past _ _ _ _ ld D.out)
        have hN1 : g + 1 ≤ w4.heap.size := Nat.le_trans (by simp; omega) hgrow.size
        have B1 : Below w.heap.size w w4 := (hB.out.alloc hB.out.size _).grown hgrow (by simp; omega) (fun q hq => by have := (hov q hq).1; omega)
        go_roundw
        case rel => exact ⟨k + 1, by omega, by go_num, by rw [HS2.out, List.length_append, ivals_app]; exact hown', D1, hN1, B1⟩
        case measure => simp [intOf]; omega
    · obtain rfl : k = 3 := by omega
      replace O := Go.Lib.hid O; replace hB := Go.Lib.hid hB
      go_wp2
      go_ret
      exact ⟨_, rfl, own_mono (by omega) O.out, hB.out⟩
end Go.Proofs.YtlbafaedmagmfaaDoor
