import Derived.Test.YtdagbddmgeoanaaDoorG1
import Derived.Test.YtdagbddmgeoanaaDoorCodeOf
import Derived.Test.YtdagbddmgeoanaaDoorQT
namespace Go.Proofs.YtdagbddmgeoanaaDoor
open Go.RowKit
set_option maxRecDepth 100000
set_option linter.unusedVariables false
set_option linter.unusedSimpArgs false
def i3 (m : Nat → Int) (i : Nat) : Value := .int .i64 (m i)
theorem i3_at (m : Nat → Int) (i : Nat) : i3 m i = .int .i64 (m i) := rfl
theorem i3_one (m : Nat → Int) (i : Nat) : (i3 m i).oneCell' = true := rfl
theorem rw_i64M : (Tryd.prog.underlying 2).map (·.isRow) = some false := by kernel_rfl
def sumW (w : Nat → Int) : Int := w 0 + w 1 + w 2
def trmM (w : Nat → Int) (P : Int) (m : Nat → Int) (k : Nat) : Int := m k * sumW w - w k * P
def offK (w : Nat → Int) (P : Int) (m : Nat → Int) : Nat → Int
  | 0 => 0
  | k + 1 => offK w P m k + max (trmM w P m k) (-(trmM w P m k))
def in3 (m : Nat → Int) (b : Int) : Prop := ∀ i, i < 3 → 0 ≤ m i ∧ m i ≤ b
theorem sumW_bd {w : Nat → Int} (hw : in3 w 1000) : 0 ≤ sumW w ∧ sumW w ≤ 3000 := by
  have h0 := hw 0 (by omega); have h1 := hw 1 (by omega); have h2 := hw 2 (by omega)
  unfold sumW; omega
theorem mul_bd {a b x y : Int} (ha : 0 ≤ a ∧ a ≤ x) (hb : 0 ≤ b ∧ b ≤ y) : 0 ≤ a * b ∧ a * b ≤ x * y := ⟨Int.mul_nonneg ha.1 hb.1, Int.mul_le_mul ha.2 hb.2 hb.1 (by omega)⟩
theorem trm_bd {w m : Nat → Int} {P : Int} (hw : in3 w 1000) (hm : in3 m 30) (hP : 1 ≤ P ∧ P ≤ 30) {k : Nat} (hk : k < 3) : (0 ≤ m k * sumW w ∧ m k * sumW w ≤ 90000) ∧ (0 ≤ w k * P ∧ w k * P ≤ 30000) := by
  have h1 := mul_bd (hm k hk) (sumW_bd hw)
  have h2 := mul_bd (hw k hk) (⟨by omega, hP.2⟩ : 0 ≤ P ∧ P ≤ 30)
  omega
theorem offK_bd {w m : Nat → Int} {P : Int} (hw : in3 w 1000) (hm : in3 m 30) (hP : 1 ≤ P ∧ P ≤ 30) : ∀ k, k ≤ 3 → 0 ≤ offK w P m k ∧ offK w P m k ≤ 90000 * k
  | 0, _ => by simp [offK]
  | k + 1, h => by
    have h1 := offK_bd hw hm hP k (by omega)
    have h2 := trm_bd hw hm hP (k := k) (by omega)
    unfold offK trmM
    omega
set_option maxHeartbeats 4000000 in
theorem offFrom_any (m v : Nat → Int) (P : Int) (w : World) (hm : in3 m 30) (hv : in3 v 1000) (hP : 1 ≤ P ∧ P ≤ 30) : Calls Tryd.prog 17 #[.agg (vrow 3 (i3 m)), .agg (vrow 3 (i3 v)), .int .i64 P] w fun e w' => e = .returned (.int .i64 (offK v P m 3)) ∧ Below w.heap.size w w' := by
  have h0 := hv 0 (by omega); have h1 := hv 1 (by omega); have h2 := hv 2 (by omega)
  have hs1 : IntKind.i64.wrap (v 0 + v 1) = v 0 + v 1 := IntWalk.i64_in _ (by omega)
  have hs2 : IntKind.i64.wrap (v 0 + v 1 + v 2) = sumW v := IntWalk.i64_in _ (by omega)
  have X : Hid (((w.alloc (.cells (vrow 3 (i3 m)) 22)).alloc (.cells (vrow 3 (i3 v)) 22)).heap[w.heap.size]? = some (.cells (vrow 3 (i3 m)) 22)) := (heap_past _ _ _ _ (by simp <;> omega) (heap_at _ _ _ (by simp)))
  have Y : Hid (((w.alloc (.cells (vrow 3 (i3 m)) 22)).alloc (.cells (vrow 3 (i3 v)) 22)).heap[w.heap.size + 1]? = some (.cells (vrow 3 (i3 v)) 22)) := (heap_at _ _ _ (by simp))
  have hB : Hid (Below w.heap.size w ((w.alloc (.cells (vrow 3 (i3 m)) 22)).alloc (.cells (vrow 3 (i3 v)) 22))) := Go.Lib.hid (((Below.refl w.heap.size w).alloc (by simp <;> omega) _).alloc (by simp <;> omega) _)
  go_enter Tryd.func17, Tryd.ntmps17
  go_wp2_with (first
    | go_skip
    | ((with_reducible refine wlAt 12 rfl ?_); refine wpList_ld1 2 _ rfl (by first | exact want_n rfl | exact want_g _ _ _ rfl rfl rfl) (w.heap.size + 1) _ rfl 3 (i3 v) _ rw_i64M Y.out (by omega) ?_; rw [i3_at])
    | ((with_reducible refine wlAt 14 rfl ?_); refine wpList_ld1 2 _ rfl (by first | exact want_n rfl | exact want_g _ _ _ rfl rfl rfl) (w.heap.size + 1) _ rfl 3 (i3 v) _ rw_i64M Y.out (by omega) ?_; rw [i3_at])
    | ((with_reducible refine wlAt 17 rfl ?_); refine wpList_ld1 2 _ rfl (by first | exact want_n rfl | exact want_g _ _ _ rfl rfl rfl) (w.heap.size + 1) _ rfl 3 (i3 v) _ rw_i64M Y.out (by omega) ?_; rw [i3_at])
    | fail)
  have X0 := X.out; have Y0 := Y.out; have B0 := hB.out
  clear X Y hB hs1 hs2 h0 h1 h2
  go_loopw [8, 19] (fun ov iv wr => ∃ k : Nat, k ≤ 3 ∧ iv = .int .i64 k ∧ ov = .int .i64 (offK v P m k) ∧ wr.heap[w.heap.size]? = some (.cells (vrow 3 (i3 m)) 22) ∧ wr.heap[w.heap.size + 1]? = some (.cells (vrow 3 (i3 v)) 22) ∧ Below w.heap.size w wr) (fun _ iv _ => 3 - (intOf iv).toNat)
  case atStart => exact ⟨0, by omega, rfl, rfl, X0, Y0, B0⟩
  case round =>
    clear X0 Y0 B0
    obtain ⟨k, hk, rfl, rfl, X, Y, hB⟩ := hrel
    by_cases hlt : k < 3
    · have hkI : (k : Int) < 3 := by omega
      have hk0 : (0 : Int) ≤ (k : Int) := by omega
      have hkd : decide ((k : Int) < 3) = true := by simpa using hkI
      have hbk := offK_bd hv hm hP k hk
      have htb := trm_bd hv hm hP hlt
      have hst := Go.Lib.hid (show offK v P m (k + 1) = offK v P m k + max (trmM v P m k) (-(trmM v P m k)) from rfl)
      have htd : trmM v P m k = m k * sumW v - v k * P := rfl
      have EM := Go.Lib.hid (i3_at m k); have EV := Go.Lib.hid (i3_at v k)
      rw [htd] at hst
      clear htd
      generalize sumW v = S at *
      generalize offK v P m k = ok at *
      generalize m k = mk at *
      generalize v k = vk at *
      have hq1 : IntKind.i64.wrap (mk * S) = mk * S := IntWalk.i64_in _ (by omega)
      have hq2 : IntKind.i64.wrap (vk * P) = vk * P := IntWalk.i64_in _ (by omega)
      generalize ht1 : mk * S = t1 at *
      generalize ht2 : vk * P = t2 at *
      have hq3 : IntKind.i64.wrap (t1 - t2) = t1 - t2 := IntWalk.i64_in _ (by omega)
      have hq4 : IntKind.i64.wrap (-(t1 - t2)) = -(t1 - t2) := IntWalk.i64_in _ (by omega)
      generalize ht3 : t1 - t2 = t3 at *
      replace X := Go.Lib.hid X; replace Y := Go.Lib.hid Y; replace hB := Go.Lib.hid hB
      go_wp2
      refine region_at (by kernel_rfl) (by kernel_rfl) ?_
      intro W hW
      rw [hW] at hB X Y
      clear hW
      have X' := Go.Lib.hid (cls_row' X.out); have Y' := Go.Lib.hid (cls_row' Y.out)
      (repeat (first
        | go_big_quiet_skip
        | (refine wpQuiet_load1 2 _ rfl (by first | exact want_n rfl | exact want_g _ _ _ rfl rfl rfl) w.heap.size _ rfl 3 (i3 m) _ rw_i64M X'.out (by omega) ?_; simp only [Nat.zero_add, Nat.mul_one]; rw [EM.out]; simp only [Act.put, List.setIfInBounds_toArray, List.set_cons_succ, List.set_cons_zero])
        | (refine wpQuiet_load1 2 _ rfl (by first | exact want_n rfl | exact want_g _ _ _ rfl rfl rfl) (w.heap.size + 1) _ rfl 3 (i3 v) _ rw_i64M Y'.out (by omega) ?_; simp only [Nat.zero_add, Nat.mul_one]; rw [EV.out]; simp only [Act.put, List.setIfInBounds_toArray, List.set_cons_succ, List.set_cons_zero])
        | go_big_quiet_step (fail)))
      refine wpQuiet_nil ?_
      intro W2 hb
      replace X := Go.Lib.hid (row_next hb X.out); replace Y := Go.Lib.hid (row_next hb Y.out); replace hB := Go.Lib.hid (below_next hB.out hb)
      clear hb X' Y'
      go_wp2
      go_roundw
      case rel => exact ⟨k + 1, by omega, by go_num, by rw [hst.out]; congr 1; (first | omega | (rw [IntWalk.i64_in _ (by omega)]; omega) | (split <;> omega)), X.out, Y.out, hB.out⟩
      case measure => simp [intOf]; omega
    · obtain rfl : k = 3 := by omega
      have hkd : decide (((3 : Nat) : Int) < 3) = false := by simp
      go_wp2
      go_ret
      exact ⟨rfl, hB⟩
end Go.Proofs.YtdagbddmgeoanaaDoor
