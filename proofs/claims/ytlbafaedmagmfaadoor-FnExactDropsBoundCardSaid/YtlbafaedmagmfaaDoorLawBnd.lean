import Derived.Test.YtlbafaedmagmfaaDoorPLeftI
import Derived.Test.YtlbafaedmagmfaaDoorPCk
import Derived.Test.YtlbafaedmagmfaaDoorQT
namespace Go.Proofs.YtlbafaedmagmfaaDoor
open Go.RowKit
set_option maxRecDepth 100000
set_option linter.unusedVariables false
set_option linter.unusedSimpArgs false
theorem lft_three (p : Pic) (h : ∀ i, i < 64 → 0 ≤ p.ink i ∧ p.ink i ≤ 3) (l : List Sp8) : lft p (fun _ => false) l + cnt p 0 l = l.length ∧ cnt p 4 l = 0 := by
  induction l with
  | nil => simp [lft, cnt]
  | cons q l ih =>
    obtain ⟨⟨qx, qy⟩, hx, hy⟩ := q
    replace hx : qx < 8 := hx
    replace hy : qy < 8 := hy
    have hq := h (8 * qy + qx) (by omega)
    have e1 : lft p (fun _ => false) (⟨(qx, qy), hx, hy⟩ :: l) = lft p (fun _ => false) l + if decide (0 < p.ink (8 * qy + qx)) then 1 else 0 := by simp [lft, List.countP_cons]
    have e2 : ∀ k, cnt p k (⟨(qx, qy), hx, hy⟩ :: l) = cnt p k l + if p.ink (8 * qy + qx) == k then 1 else 0 := fun k => by unfold cnt; rw [List.countP_cons]
    rw [e1, e2, e2, List.length_cons]
    generalize lft p (fun _ => false) l = A at *
    generalize cnt p 0 l = B at *
    generalize cnt p 4 l = C at *
    generalize p.ink (8 * qy + qx) = v at *
    obtain ⟨i1, i2⟩ := ih
    have hv : v = 0 ∨ v = 1 ∨ v = 2 ∨ v = 3 := by omega
    rcases hv with rfl | rfl | rfl | rfl <;> simp <;> omega
/-- the bound -/
def bnd (p : Pic) (a c : Nat) : Int := mx ((inkT p (cellsL a c) 3).length : Int) (fv (lft p (fun _ => false) (cellsL a c)))
theorem lfI_eq (p : Pic) (a c : Nat) (h : ∀ i, i < 64 → 0 ≤ p.ink i ∧ p.ink i ≤ 3) : lfI p a c = lft p (fun _ => false) (cellsL a c) := by
  obtain ⟨h1, h2⟩ := lft_three p h (cellsL a c)
  rw [cellsL_length] at h1
  unfold lfI
  rw [h2]
  have hm : (a : Int) * c = ((a * c : Nat) : Int) := by simp
  rw [hm]; omega
theorem pbuilt_b8 : Tryd.prog.built 138 [] = some (vrow 64 (offF fun _ => false)) := by kernel_rfl
theorem own_sl {W : World} {base n sz : Nat} {ty : TypeId} {v : Value} {xs : List Value} (h : W.ownsRow base ty sz v n xs) : ∃ ao cc, v = .slice ao n cc ∧ True := by
  rcases h.2 with ⟨rfl, h0⟩ | ⟨g, cap, cur, rfl, _⟩
  · exact ⟨none, 0, by rw [h0], trivial⟩
  · exact ⟨_, _, rfl, trivial⟩
theorem specBnd_bad (p : Pic) (hf : p.fit) (h1 : okP p = false) (w : World) : Calls Tryd.prog 44 #[.agg p.row] w fun e w' => e = .returned (.tuple #[.int .i64 0, .int .i64 1]) ∧ Below w.heap.size w w' := by
  have HO := Go.Lib.hid fun w' h => okP_from w' p w.heap.size w' h hf (Below.refl _ _)
  rw [h1] at HO
  have hB : Hid (Below w.heap.size w (w.alloc (.cells (vrow 66 p.at) 72))) := Go.Lib.hid ((Below.refl w.heap.size w).alloc (by simp <;> omega) _)
  have P : Hid ((w.alloc (.cells (vrow 66 p.at) 72)).heap[w.heap.size]? = some (.cells (vrow 66 p.at) 72)) := heap_at _ _ _ (by simp)
  go_enter Tryd.func44, Tryd.ntmps44
  go_wp2_with (first
    | go_skip
    | (go_at_call 100; (refine (HO.out _ P.out).mono ?_); rintro e w1 ⟨rfl, hb⟩; replace P := Go.Lib.hid (row_next hb P.out); replace hB := Go.Lib.hid (below_next hB.out hb); clear hb))
  go_ret2
  exact ⟨rfl, hB.out⟩
set_option maxHeartbeats 4000000 in
theorem specBnd_ok (p : Pic) (a c : Nat) (hf : p.fit) (h1 : okP p = true) (ea : p.wide = a) (ec : p.high = c) (ha : 1 ≤ a ∧ a ≤ 8) (hc : 1 ≤ c ∧ c ≤ 8) (w : World) : Calls Tryd.prog 44 #[.agg p.row] w fun e w' => e = .returned (.tuple #[.int .i64 (bnd p a c), .int .i64 0]) ∧ Below w.heap.size w w' := by
  have HO := Go.Lib.hid fun w' h => okP_from w' p w.heap.size w' h hf (Below.refl _ _)
  rw [h1] at HO
  have HL := Go.Lib.hid fun W bo h ho => lleft_any p (fun _ => false) w.heap.size bo a c W h ho ea ec ha hc
  have HI := Go.Lib.hid fun W h => links_any p w.heap.size a c W h ea ec ha hc
  have HM := Go.Lib.hid fun x y w => lmax_any x y w
  have hN := inkT_len p (cellsL a c) 3
  have hF : lft p (fun _ => false) (cellsL a c) ≤ 64 := Nat.le_trans (lft_le _ _ _) (by rw [cellsL_length]; exact Nat.mul_le_mul ha.2 hc.2)
  have HB := Go.Lib.hid (show bnd p a c = mx ((inkT p (cellsL a c) 3).length : Int) (fv (lft p (fun _ => false) (cellsL a c))) from rfl)
  generalize inkT p (cellsL a c) 3 = IL at *
  generalize lft p (fun _ => false) (cellsL a c) = F at *
  have hd : ((F : Int) + 4).tdiv 5 = fv F := by rw [Int.tdiv_eq_ediv_of_nonneg (by omega)]; rfl
  have HD := Go.Lib.hid hd
  have hf3 : 0 ≤ fv F ∧ fv F ≤ 100 := by unfold fv; omega
  have PB := pbuilt_b8
  clear ea ec hd
  have hB : Hid (Below w.heap.size w (w.alloc (.cells (vrow 66 p.at) 72))) := Go.Lib.hid ((Below.refl w.heap.size w).alloc (by simp <;> omega) _)
  have P : Hid ((w.alloc (.cells (vrow 66 p.at) 72)).heap[w.heap.size]? = some (.cells (vrow 66 p.at) 72)) := heap_at _ _ _ (by simp)
  go_enter Tryd.func44, Tryd.ntmps44
  go_wp2_with (first
    | go_skip
    | (go_at_call 100; (refine (HO.out _ P.out).mono ?_); rintro e w1 ⟨rfl, hb⟩; replace P := Go.Lib.hid (row_next hb P.out); replace hB := Go.Lib.hid (below_next hB.out hb); clear hb; have hsz := hB.out.size; have lp := row_lt P.out)
    | ((with_reducible refine wlAt 7 rfl ?_); refine wpList_built rfl 138 [] rfl [] (by rfl) _ PB ?_)
    | (go_at_call 101; have O := Go.Lib.hid (heap_at w1 (.cells (vrow 64 (offF fun _ => false)) 138) _ rfl); replace P := Go.Lib.hid (heap_past w1 (.cells (vrow 64 (offF fun _ => false)) 138) _ _ lp P.out); replace hB := Go.Lib.hid (hB.out.alloc hsz (.cells (vrow 64 (offF fun _ => false)) 138)); (refine (HL.out _ _ P.out O.out).mono ?_); rintro o w3 ⟨rfl, hb⟩; replace P := Go.Lib.hid (row_next hb P.out); replace hB := Go.Lib.hid (below_next hB.out hb); clear hb)
    | (go_at_call 103; (refine (HI.out _ P.out).mono ?_); rintro o w4 ⟨v, rfl, hO, hb⟩; replace P := Go.Lib.hid (row_next hb P.out); replace hB := Go.Lib.hid (below_next hB.out hb); clear hb; obtain ⟨ao, cc, rfl, _⟩ := own_sl hO)
    | (go_at_call 102; (refine (HM.out _ _ _).mono ?_); rintro o w5 ⟨rfl, hb⟩; replace P := Go.Lib.hid (row_next hb P.out); replace hB := Go.Lib.hid (below_next hB.out hb); clear hb))
  go_ret2
  rw [HB.out]
  exact ⟨rfl, hB.out⟩
theorem implBnd_bad (p : Pic) (hf : p.fit) (h1 : okP p = false) (e : ErrE) (w : World) (hE : Errs e w) : Calls Tryd.prog 46 #[.agg p.row] w fun o w' => o = .returned (.tuple #[.int .i64 0, .int .i64 1]) ∧ Below w.heap.size w w' := by
  have HC := Go.Lib.hid fun w hE => ckPic_bad p hf h1 e w hE
  have HD := Go.Lib.hid fun w hE => codeOf_1 e w hE
  have hB : Hid (Below w.heap.size w (w.alloc (.cells (vrow 66 p.at) 72))) := Go.Lib.hid ((Below.refl w.heap.size w).alloc (by simp <;> omega) _)
  have P : Hid ((w.alloc (.cells (vrow 66 p.at) 72)).heap[w.heap.size]? = some (.cells (vrow 66 p.at) 72)) := heap_at _ _ _ (by simp)
  go_enter Tryd.func46, Tryd.ntmps46
  go_wp2_with (first
    | go_skip
    | ((with_reducible refine wlAt 5 rfl ?_); refine wpList_ldm 72 _ rfl (by first | exact want_n rfl | exact want_g _ _ _ rfl rfl rfl) (w.heap.size) _ rfl 66 66 p.at _ rw_pic size_pic P.out (by omega) ?_; rw [pic_row])
    | (go_at_call 105; (refine (HC.out _ (hE.next hB.out)).mono ?_); rintro o w1 ⟨rfl, hb⟩; replace P := Go.Lib.hid (row_next hb P.out); replace hB := Go.Lib.hid (below_next hB.out hb); clear hb)
    | (go_at_call 61; (refine (HD.out _ (hE.next hB.out)).mono ?_); rintro o w2 ⟨rfl, hb⟩; replace P := Go.Lib.hid (row_next hb P.out); replace hB := Go.Lib.hid (below_next hB.out hb); clear hb))
  go_ret2
  exact ⟨rfl, hB.out⟩
set_option maxHeartbeats 4000000 in
theorem implBnd_ok (p : Pic) (a c : Nat) (hf : p.fit) (h1 : okP p = true) (ea : p.wide = a) (ec : p.high = c) (ha : 1 ≤ a ∧ a ≤ 8) (hc : 1 ≤ c ∧ c ≤ 8) (e : ErrE) (w : World) (hE : Errs e w) : Calls Tryd.prog 46 #[.agg p.row] w fun o w' => o = .returned (.tuple #[.int .i64 (bnd p a c), .int .i64 0]) ∧ Below w.heap.size w w' := by
  have HC := Go.Lib.hid fun w hE => ckPic_ok p hf h1 e w hE
  have hk4 : ∀ i, i < 64 → 0 ≤ p.ink i ∧ p.ink i ≤ 4 := fun i hi => ⟨(okP_ink hf h1 i hi).1, by have := (okP_ink hf h1 i hi).2; omega⟩
  have HI := fun w => iinks_any p a c w ea ec ha.2 hc.2 hk4
  have HL := fun w => ileft_any p a c w ea ec ha hc hk4
  rw [lfI_eq p a c fun i hi => okP_ink hf h1 i hi] at HL
  have hF : lft p (fun _ => false) (cellsL a c) ≤ 64 := Nat.le_trans (lft_le _ _ _) (by rw [cellsL_length]; exact Nat.mul_le_mul ha.2 hc.2)
  have HV := fun w => fives_any (lft p (fun _ => false) (cellsL a c)) w ⟨by omega, by omega⟩
  have hN := inkT_len p (cellsL a c) 3
  have HB := Go.Lib.hid (show bnd p a c = mx ((inkT p (cellsL a c) 3).length : Int) (fv (lft p (fun _ => false) (cellsL a c))) from rfl)
  generalize inkT p (cellsL a c) 3 = IL at *
  generalize lft p (fun _ => false) (cellsL a c) = F at *
  have hf3 : 0 ≤ fv F ∧ fv F ≤ 100 := by unfold fv; omega
  generalize fv F = V at *
  clear ea ec hk4
  have hB : Hid (Below w.heap.size w (w.alloc (.cells (vrow 66 p.at) 72))) := Go.Lib.hid ((Below.refl w.heap.size w).alloc (by simp <;> omega) _)
  have P : Hid ((w.alloc (.cells (vrow 66 p.at) 72)).heap[w.heap.size]? = some (.cells (vrow 66 p.at) 72)) := heap_at _ _ _ (by simp)
  go_enter Tryd.func46, Tryd.ntmps46
  go_wp2_with (first
    | go_skip
    | ((with_reducible refine wlAt 5 rfl ?_); refine wpList_ldm 72 _ rfl (by first | exact want_n rfl | exact want_g _ _ _ rfl rfl rfl) (w.heap.size) _ rfl 66 66 p.at _ rw_pic size_pic P.out (by omega) ?_; rw [pic_row])
    | (go_at_call 105; (refine (HC.out _ (hE.next hB.out)).mono ?_); rintro o w1 ⟨rfl, hb⟩; replace P := Go.Lib.hid (row_next hb P.out); replace hB := Go.Lib.hid (below_next hB.out hb); clear hb))
  refine Code.wp_mono (Q := fun e a' W' => e = .normal ∧ (∃ v, a' = { tmps := #[.agg p.row, .pointer (some ⟨w.heap.size, 0, none⟩), .int .i64 (bnd p a c), .int .i64 0, .nilIface, .agg p.row, .nilIface, .nilIface, .bool false, undef, undef, .agg p.row, v, .int .i64 (IL.length : Int), .agg p.row, .int .i64 F, .int .i64 V, .int .i64 (bnd p a c)], defers := [] }) ∧ Below w.heap.size w W') ?_ ?_
  rotate_left
  · refine wp_region_held_drew (S := fun W' => Below w.heap.size w W' ∧ W'.heap[w.heap.size]? = some (.cells (vrow 66 p.at) 72)) (by kernel_rfl) ⟨hB.out.drew, P.out⟩ (fun hH => ?_)
    clear hB P
    generalize World.drew _ = W at hH ⊢
    refine wpAnyH_take (i := 0) (v := (.agg p.row)) rfl (by kernel_rfl) (by kernel_rfl) (by kernel_rfl) (fun _ _ _ h => by cases h.1) (yields_row (by rfl) 72 _ rfl w.heap.size rfl 66 p.at 72 _ Tryd.underlying72 rfl size_pic (fun _ h => h.2)) hH ?_
    (try simp only [List.getElem_toArray, List.getElem_cons_succ, List.getElem_cons_zero, Act.put, List.setIfInBounds_toArray, List.set_cons_succ, List.set_cons_zero])
    refine wpAnyH_take (i := 3) (v := (.agg p.row)) rfl (by kernel_rfl) (by kernel_rfl) (by kernel_rfl) (fun _ _ _ h => by cases h.1) (yields_row (by rfl) 72 _ rfl w.heap.size rfl 66 p.at 72 _ Tryd.underlying72 rfl size_pic (fun _ h => h.2)) hH ?_
    (try simp only [List.getElem_toArray, List.getElem_cons_succ, List.getElem_cons_zero, Act.put, List.setIfInBounds_toArray, List.set_cons_succ, List.set_cons_zero])
    have hm1 : ∀ (b : Bool), decide (V < (IL.length : Int)) = b → bnd p a c = if b then (IL.length : Int) else V := fun b hb => by
      rw [HB.out]
      unfold mx
      cases b
      · rw [if_neg (by simpa using hb)]; rfl
      · rw [if_pos (by simpa using hb)]; rfl
    refine wpAnyH_ready (rs := [1]) (by kernel_rfl) (by simp) (AllReadyH.cons rfl (fun K hK => ?_) AllReadyH.nil)
    (rw [if_pos (by rfl)]; go_simp; go_at_call 106; refine (HI _).mono ?_; rintro o X ⟨v, rfl, hO, hb⟩; replace hH : Below w.heap.size w X ∧ X.heap[w.heap.size]? = some (.cells (vrow 66 p.at) 72) := ⟨hH.1.trans (hb.mono hH.1.size), row_next hb hH.2⟩; clear hb; obtain ⟨ao, cc, rfl, _⟩ := own_sl hO; clear hO; refine hK.out _ _ hH (fun hH => ?_); clear hK K; (try simp only [List.getElem_toArray, List.getElem_cons_succ, List.getElem_cons_zero, Act.put, List.setIfInBounds_toArray, List.set_cons_succ, List.set_cons_zero])); (refine wpAnyH_take (i := 2) (v := (.int .i64 (IL.length : Int))) rfl (by kernel_rfl) (by kernel_rfl) (by kernel_rfl) (fun _ _ _ h => by cases h.1) (.inl ⟨by kernel_rfl, fun w _ => by go_simp⟩) hH ?_); (try simp only [List.getElem_toArray, List.getElem_cons_succ, List.getElem_cons_zero, Act.put, List.setIfInBounds_toArray, List.set_cons_succ, List.set_cons_zero])
    refine wpAnyH_ready (rs := [4]) (by kernel_rfl) (by simp) (AllReadyH.cons rfl (fun K hK => ?_) AllReadyH.nil)
    (rw [if_pos (by rfl)]; go_simp; go_at_call 108; refine (HL _).mono ?_; rintro o X ⟨rfl, hb⟩; replace hH : Below w.heap.size w X ∧ X.heap[w.heap.size]? = some (.cells (vrow 66 p.at) 72) := ⟨hH.1.trans (hb.mono hH.1.size), row_next hb hH.2⟩; clear hb;  refine hK.out _ _ hH (fun hH => ?_); clear hK K; (try simp only [List.getElem_toArray, List.getElem_cons_succ, List.getElem_cons_zero, Act.put, List.setIfInBounds_toArray, List.set_cons_succ, List.set_cons_zero]))
    refine wpAnyH_ready (rs := [5]) (by kernel_rfl) (by simp) (AllReadyH.cons rfl (fun K hK => ?_) AllReadyH.nil)
    (rw [if_pos (by rfl)]; go_simp; go_at_call 107; refine (HV _).mono ?_; rintro o X ⟨rfl, hb⟩; replace hH : Below w.heap.size w X ∧ X.heap[w.heap.size]? = some (.cells (vrow 66 p.at) 72) := ⟨hH.1.trans (hb.mono hH.1.size), row_next hb hH.2⟩; clear hb;  refine hK.out _ _ hH (fun hH => ?_); clear hK K; (try simp only [List.getElem_toArray, List.getElem_cons_succ, List.getElem_cons_zero, Act.put, List.setIfInBounds_toArray, List.set_cons_succ, List.set_cons_zero]))
    (refine wpAnyH_take (i := 6) (v := (.int .i64 (bnd p a c))) rfl (by kernel_rfl) (by kernel_rfl) (by kernel_rfl) (fun _ _ _ h => by cases h.1) (.inl ⟨by kernel_rfl, fun w _ => by (cases hq : decide (V < (IL.length : Int))) <;> (rw [hm1 _ hq]; simp only [decide_eq_true_eq, decide_eq_false_iff_not] at hq; go_simp; (first | done | (intro hh; omega)))⟩) hH ?_); (try simp only [List.getElem_toArray, List.getElem_cons_succ, List.getElem_cons_zero, Act.put, List.setIfInBounds_toArray, List.set_cons_succ, List.set_cons_zero]); (refine wpAnyH_take (i := 7) (v := (.int .i64 (bnd p a c))) rfl (by kernel_rfl) (by kernel_rfl) (by kernel_rfl) (fun _ _ _ h => by cases h.1) (.inl ⟨by kernel_rfl, fun w _ => by go_simp⟩) hH ?_); (try simp only [List.getElem_toArray, List.getElem_cons_succ, List.getElem_cons_zero, Act.put, List.setIfInBounds_toArray, List.set_cons_succ, List.set_cons_zero]); (refine wpAnyH_take (i := 8) (v := (.int .i64 0)) rfl (by kernel_rfl) (by kernel_rfl) (by kernel_rfl) (fun _ _ _ h => by cases h.1) (.inl ⟨by kernel_rfl, fun w _ => by go_simp⟩) hH ?_); (try simp only [List.getElem_toArray, List.getElem_cons_succ, List.getElem_cons_zero, Act.put, List.setIfInBounds_toArray, List.set_cons_succ, List.set_cons_zero]); (refine wpAnyH_done (by kernel_rfl) ?_ _); exact ⟨rfl, ⟨_, rfl⟩, hH.1⟩
  rintro e1 a1 W1 ⟨rfl, ⟨v, rfl⟩, hB1⟩
  go_wp2
  go_ret2
  exact ⟨rfl, hB1⟩
theorem bnd_walk (p : Pic) (r k : Int) (e : ErrE) (w : World) (hE : Errs e w)
    (hS : ∀ w, Calls Tryd.prog 44 #[.agg p.row] w fun o w' => o = .returned (.tuple #[.int .i64 r, .int .i64 k]) ∧ Below w.heap.size w w')
    (hI : ∀ w, Errs e w → Calls Tryd.prog 46 #[.agg p.row] w fun o w' => o = .returned (.tuple #[.int .i64 r, .int .i64 k]) ∧ Below w.heap.size w w') :
    Calls Tryd.prog 12 #[.agg p.row] w fun o w' => o = .returned (.bool true) ∧ Below w.heap.size w w' := by
  have HT := Go.Lib.hid fun w => toPicture_any p w
  have HS := Go.Lib.hid hS
  have HI := Go.Lib.hid hI
  clear hS hI
  have hB : Hid (Below w.heap.size w (w.alloc (.cells (vrow 66 p.at) 70))) := Go.Lib.hid ((Below.refl w.heap.size w).alloc (by simp <;> omega) _)
  have P : Hid ((w.alloc (.cells (vrow 66 p.at) 70)).heap[w.heap.size]? = some (.cells (vrow 66 p.at) 70)) := heap_at _ _ _ (by simp)
  go_enter Tryd.func12, Tryd.ntmps12
  go_wp2_with (first
    | go_skip
    | ((with_reducible refine wlAt 8 rfl ?_); refine wpList_ldm 70 _ rfl (by first | exact want_n rfl | exact want_g _ _ _ rfl rfl rfl) (w.heap.size) _ rfl 66 66 p.at _ rw_lpic size_lpic P.out (by omega) ?_; rw [pic_row])
    | ((with_reducible refine wlAt 14 rfl ?_); refine wpList_ldm 70 _ rfl (by first | exact want_n rfl | exact want_g _ _ _ rfl rfl rfl) (w.heap.size) _ rfl 66 66 p.at _ rw_lpic size_lpic P.out (by omega) ?_; rw [pic_row])
    | (go_at_call 45; (refine (HT.out _).mono ?_); rintro o w1 ⟨rfl, hb⟩; replace P := Go.Lib.hid (row_next hb P.out); replace hB := Go.Lib.hid (below_next hB.out hb); clear hb)
    | (go_at_call 44; (refine (HS.out _).mono ?_); rintro o w3 ⟨rfl, hb⟩; replace P := Go.Lib.hid (row_next hb P.out); replace hB := Go.Lib.hid (below_next hB.out hb); clear hb)
    | (go_at_call 46; (refine (HI.out _ (hE.next hB.out)).mono ?_); rintro o w6 ⟨rfl, hb⟩; replace P := Go.Lib.hid (row_next hb P.out); replace hB := Go.Lib.hid (below_next hB.out hb); clear hb))
  go_ret
  exact ⟨rfl, hB.out⟩
theorem bnd_law (p : Pic) (e : ErrE) (w : World) (hE : Errs e w) (hf : p.fit) : Calls Tryd.prog 12 #[.agg p.row] w fun o w' => o = .returned (.bool true) ∧ Below w.heap.size w w' := by
  cases h1 : okP p
  · exact bnd_walk p 0 1 e w hE (fun w => specBnd_bad p hf h1 w) (fun w hE => implBnd_bad p hf h1 e w hE)
  · obtain ⟨a, c, ea, ec, ha, hc⟩ := okP_nat h1
    exact bnd_walk p _ 0 e w hE (fun w => specBnd_ok p a c hf h1 ea ec ha hc w) (fun w hE => implBnd_ok p a c hf h1 ea ec ha hc e w hE)
end Go.Proofs.YtlbafaedmagmfaaDoor
