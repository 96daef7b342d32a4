import Derived.Test.YtlbafaedmagmfaaDoorPLeft
import Derived.Test.YtlbafaedmagmfaaDoorPInk
import Derived.Test.YtlbafaedmagmfaaDoorLawCnt
namespace Go.Proofs.YtlbafaedmagmfaaDoor
open Go.RowKit
set_option maxRecDepth 100000
set_option linter.unusedVariables false
set_option linter.unusedSimpArgs false
/-- the program's number of cells that are left -/
def lfI (p : Pic) (a c : Nat) : Int := (a : Int) * c - cnt p 0 (cellsL a c) - cnt p 4 (cellsL a c)
theorem two_le (p : Pic) (l : List Sp8) : cnt p 0 l + cnt p 4 l ≤ l.length := by
  induction l with
  | nil => simp [cnt]
  | cons q l ih =>
    simp only [cnt, List.countP_cons, List.length_cons] at ih ⊢
    by_cases h0 : p.ink (8 * q.1.2 + q.1.1) = 0
    · rw [h0]; simp; omega
    · by_cases h4 : p.ink (8 * q.1.2 + q.1.1) = 4
      · rw [h4]; simp; omega
      · simp [h0, h4]; omega
set_option maxHeartbeats 4000000 in
theorem ileft_any (p : Pic) (a c : Nat) (w : World) (ea : p.wide = a) (ec : p.high = c) (ha : 1 ≤ a ∧ a ≤ 8) (hc : 1 ≤ c ∧ c ≤ 8) (hk : ∀ i, i < 64 → 0 ≤ p.ink i ∧ p.ink i ≤ 4) : Calls Tryd.prog 108 #[.agg p.row] w fun e w' => e = .returned (.int .i64 (lfI p a c)) ∧ Below w.heap.size w w' := by
  have zz := zero_a5
  have HN := Go.Lib.hid fun w => counts_any p a c w ea ec ha.2 hc.2 hk
  have h2 := two_le p (cellsL a c)
  rw [cellsL_length] at h2
  have h64 : a * c ≤ 64 := Nat.mul_le_mul ha.2 hc.2
  have hm : (a : Int) * c = ((a * c : Nat) : Int) := by simp
  have HL := Go.Lib.hid (show lfI p a c = ((a * c : Nat) : Int) - cnt p 0 (cellsL a c) - cnt p 4 (cellsL a c) by unfold lfI; rw [hm])
  generalize cellsL a c = L at *
  have c0 : cntF p L 0 = .int .i64 (cnt p 0 L) := rfl
  have c4 : cntF p L 4 = .int .i64 (cnt p 4 L) := rfl
  have C0 := Go.Lib.hid c0; have C4 := Go.Lib.hid c4
  have HM := Go.Lib.hid hm
  generalize cnt p 0 L = N0 at *
  generalize cnt p 4 L = N4 at *
  generalize a * c = M at *
  have A0 := Go.Lib.hid (show p.at 0 = .int .i8 a by rw [Pic.at_0, ea])
  have A1 := Go.Lib.hid (show p.at 1 = .int .i8 c by rw [Pic.at_1, ec])
  clear ea ec hk c0 c4 hm
  have hB : Hid (Below w.heap.size w (w.alloc (.cells (vrow 66 p.at) 72))) := Go.Lib.hid ((Below.refl w.heap.size w).alloc (by simp <;> omega) _)
  have P : Hid ((w.alloc (.cells (vrow 66 p.at) 72)).heap[w.heap.size]? = some (.cells (vrow 66 p.at) 72)) := heap_at _ _ _ (by simp)
  go_enter Tryd.func108, Tryd.ntmps108
  go_wp2_with (first
    | go_skip
    | ((with_reducible refine wlAt 4 rfl ?_); refine wpList_ldm 72 _ rfl (by first | exact want_n rfl | exact want_g _ _ _ rfl rfl rfl) (w.heap.size) _ rfl 66 66 p.at _ rw_pic size_pic P.out (by omega) ?_; rw [pic_row])
    | (go_at_call 153; (refine (HN.out _).mono ?_; rintro o w2 ⟨rfl, hb⟩; replace P := Go.Lib.hid (row_next hb P.out); replace hB := Go.Lib.hid (below_next hB.out hb); clear hb; have hsz := hB.out.size; have lp := row_lt P.out))
    | ((with_reducible refine wlOp (.store 190 (.tmp 3) (.tmp 5)) rfl ?_); refine wpList_storeall rfl 190 (.tmp 3) (.tmp 5) rfl _ rfl 5 (fun _ => .int .i64 0) (cntF p L) rfl 190 size_a5 (heap_at _ _ _ rfl) (fun _ _ => rfl) ?_; rw [setRow_at _ _ _ _ _ rfl]; have D := Go.Lib.hid (heap_at w2 (.cells (vrow 5 (cntF p L)) 190) _ rfl); replace P := Go.Lib.hid (heap_past w2 (.cells (vrow 5 (cntF p L)) 190) _ _ lp P.out); replace hB := Go.Lib.hid (hB.out.alloc hsz (.cells (vrow 5 (cntF p L)) 190)); generalize w2.alloc _ = W3 at D P hB ⊢; generalize w2.heap.size = g at D hsz lp ⊢)
    | ((with_reducible refine wlAt 7 rfl ?_); refine wpList_ld1 22 _ rfl (by first | exact want_n rfl | exact want_g _ _ _ rfl rfl rfl) (w.heap.size) _ rfl 66 p.at _ rw_i8 P.out (by omega) ?_; rw [A0.out])
    | ((with_reducible refine wlAt 10 rfl ?_); refine wpList_ld1 22 _ rfl (by first | exact want_n rfl | exact want_g _ _ _ rfl rfl rfl) (w.heap.size) _ rfl 66 p.at _ rw_i8 P.out (by omega) ?_; rw [A1.out])
    | ((with_reducible refine wlAt 12 rfl ?_); rw [HM.out])
    | ((with_reducible refine wlAt 14 rfl ?_); refine wpList_ld1 2 _ rfl (by first | exact want_n rfl | exact want_g _ _ _ rfl rfl rfl) g 0 rfl 5 (cntF p L) _ prw_i64 D.out (by omega) ?_; rw [C0.out])
    | ((with_reducible refine wlAt 17 rfl ?_); refine wpList_ld1 2 _ rfl (by first | exact want_n rfl | exact want_g _ _ _ rfl rfl rfl) g 4 rfl 5 (cntF p L) _ prw_i64 D.out (by omega) ?_; rw [C4.out]))
  go_ret
  rw [HL.out]
  have e1 : wrap64 (M : Int) = M := IntWalk.wrap64_in (M : Int) (by omega)
  have e2 : wrap64 ((M : Int) - (N0 : Int)) = (M : Int) - N0 := IntWalk.wrap64_in ((M : Int) - (N0 : Int)) (by omega)
  have e3 : wrap64 ((M : Int) - (N0 : Int) - (N4 : Int)) = (M : Int) - N0 - N4 := IntWalk.wrap64_in ((M : Int) - (N0 : Int) - (N4 : Int)) (by omega)
  exact ⟨by rw [HM.out, e1, e2, e3]; rfl, hB.out⟩
def fv (n : Int) : Int := (n + 4) / 5
theorem fives_any (n : Int) (w : World) (h : 0 ≤ n ∧ n ≤ 100) : Calls Tryd.prog 107 #[.int .i64 n] w fun e w' => e = .returned (.int .i64 (fv n)) ∧ Below w.heap.size w w' := by
  obtain ⟨h1, h2⟩ := h
  have hd : (n + 5 - 1).tdiv 5 = fv n := by rw [Int.tdiv_eq_ediv_of_nonneg (by omega)]; unfold fv; congr 1; omega
  have hf : 0 ≤ fv n ∧ fv n ≤ 100 := by unfold fv; omega
  go_enter Tryd.func107, Tryd.ntmps107
  go_wp2
  go_ret
  exact ⟨by first | (rw [hd]; done) | (rw [hd, IntWalk.i64_in _ (by omega)]) | go_num, Below.refl _ _⟩
end Go.Proofs.YtlbafaedmagmfaaDoor
