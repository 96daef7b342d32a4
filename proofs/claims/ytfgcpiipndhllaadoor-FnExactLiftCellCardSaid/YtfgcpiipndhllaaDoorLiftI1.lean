import Derived.Deep.RegionHeld3
import Derived.Test.YtfgcpiipndhllaaDoorLiftI0
namespace Go.Proofs.YtfgcpiipndhllaaDoor
open Go.RowKit
set_option maxRecDepth 100000
set_option linter.unusedVariables false
set_option linter.unusedSimpArgs false
theorem gr_refl (w : World) (row : Option Nat) : w.grownBy w row := ⟨rfl, rfl, rfl, Nat.le_refl _, fun _ _ _ => rfl⟩
theorem gr_next {W W1 W2 : World} {row : Option Nat} (h : W.grownBy W1 row) (hb : Below W1.heap.size W1 W2) : W.grownBy W2 row :=
  ⟨hb.os.trans h.os, hb.tape.trans h.tape, hb.output.trans h.output, Nat.le_trans h.size hb.size, fun k hk hne => (hb.block k (Nat.lt_of_lt_of_le hk h.size)).trans (h.block k hk hne)⟩
theorem gr_drew {W W1 : World} {row : Option Nat} (h : W.grownBy W1 row) : W.grownBy W1.drew row := ⟨h.os, h.tape, h.output, h.size, h.block⟩
theorem gr_set {W W1 : World} {g : Nat} (h : W.grownBy W1 (some g)) (cs : Array Value) : W.grownBy (W1.setRow g cs) (some g) :=
  ⟨h.os, h.tape, h.output, by simpa using h.size, fun k hk hne => (setRow_other W1 g k cs (fun e => hne (by rw [e]))).trans (h.block k hk hne)⟩
theorem gr_trans {A B C : World} {row : Option Nat} (h : A.grownBy B row) (g : B.grownBy C row) : A.grownBy C row :=
  ⟨g.os.trans h.os, g.tape.trans h.tape, g.output.trans h.output, Nat.le_trans h.size g.size, fun k hk hne => (g.block k (Nat.lt_of_lt_of_le hk h.size) hne).trans (h.block k hk hne)⟩
set_option maxHeartbeats 2000000 in
theorem on_any (b : Br) (s : Sh) (w : World) : Calls Tryd.prog 80 #[.agg b.row, .agg s.row] w fun e w' => (∃ q, e = .returned (.agg (vrow 272 (stAt b s (pfn q))))) ∧ Below w.heap.size w w' := by
  have zz := zero_st
  have hB : Hid (Below w.heap.size w (((w.alloc (.cells (vrow 5 b.at) 49)).alloc (.cells (vrow 266 s.at) 36)).alloc (.cells (vrow 272 (stAt Br.zero Sh.zero .nilFunc)) 134))) := ((((Below.refl w.heap.size w).alloc (by simp <;> omega) _).alloc (by simp <;> omega) _).alloc (by simp <;> omega) _)
  have P : Hid ((((w.alloc (.cells (vrow 5 b.at) 49)).alloc (.cells (vrow 266 s.at) 36)).alloc (.cells (vrow 272 (stAt Br.zero Sh.zero .nilFunc)) 134)).heap[w.heap.size]? = some (.cells (vrow 5 b.at) 49)) := heap_past _ _ _ _ (by simp <;> omega) (heap_past _ _ _ _ (by simp <;> omega) (heap_at _ _ _ (by simp)))
  have R : Hid ((((w.alloc (.cells (vrow 5 b.at) 49)).alloc (.cells (vrow 266 s.at) 36)).alloc (.cells (vrow 272 (stAt Br.zero Sh.zero .nilFunc)) 134)).heap[w.heap.size + 1]? = some (.cells (vrow 266 s.at) 36)) := heap_past _ _ _ _ (by simp <;> omega) (heap_at _ _ _ (by simp))
  have Z : Hid ((((w.alloc (.cells (vrow 5 b.at) 49)).alloc (.cells (vrow 266 s.at) 36)).alloc (.cells (vrow 272 (stAt Br.zero Sh.zero .nilFunc)) 134)).heap[w.heap.size + 2]? = some (.cells (vrow 272 (stAt Br.zero Sh.zero .nilFunc)) 134)) := heap_at _ _ _ (by simp)
  go_enter Tryd.func80, Tryd.ntmps80
  go_wp2
  refine Code.wp_mono (Q := fun e a' W' => e = .normal ∧ a'.tmps.getD 4 undef = .pointer (some ⟨w.heap.size + 2, 0, none⟩) ∧ a'.defers = [] ∧ ∃ q, Below w.heap.size w W' ∧ W'.heap[w.heap.size + 2]? = some (.cells (vrow 272 (stAt b s (pfn q))) 134)) ?_ ?_
  rotate_left
  · refine wp_region_held_drew (S := fun W' => Below w.heap.size w W' ∧ W'.heap[w.heap.size]? = some (.cells (vrow 5 b.at) 49) ∧ W'.heap[w.heap.size + 1]? = some (.cells (vrow 266 s.at) 36)) (by kernel_rfl) ⟨hB.out.drew, P.out, R.out⟩ (fun hH => ?_)
    have V2 := drwL Z.out
    generalize World.drew _ = W at hH V2 ⊢
    refine wpAnyH_take (i := 0) (v := (.agg (vrow 5 b.at))) rfl (by kernel_rfl) (by kernel_rfl) (by kernel_rfl) (fun _ _ _ h => by cases h.1) (yields_row (by rfl) 49 _ rfl (w.heap.size) rfl 5 b.at 49 _ Tryd.underlying49 rfl size_br (fun _ h => h.2.1)) hH ?_
    (try simp only [Act.put, List.setIfInBounds_toArray, List.set_cons_succ, List.set_cons_zero])
    refine wpAnyH_take (i := 1) (v := (.agg (vrow 266 s.at))) rfl (by kernel_rfl) (by kernel_rfl) (by kernel_rfl) (fun _ _ _ h => by cases h.1) (yields_row (by rfl) 36 _ rfl (w.heap.size + 1) rfl 266 s.at 36 _ Tryd.underlying36 rfl size_sheet (fun _ h => h.2.2)) hH ?_
    (try simp only [Act.put, List.setIfInBounds_toArray, List.set_cons_succ, List.set_cons_zero])
    refine wpAnyH_ready (rs := [2]) (by kernel_rfl) (by simp) (AllReadyH.cons rfl (fun K hK => ?_) AllReadyH.nil)
    rw [if_pos (by rfl)]
    go_simp
    go_at_call 131
    refine (portions_any _).mono ?_
    rintro o X ⟨⟨q, rfl⟩, hb⟩
    replace hH : Below w.heap.size w X ∧ X.heap[w.heap.size]? = some (.cells (vrow 5 b.at) 49) ∧ X.heap[w.heap.size + 1]? = some (.cells (vrow 266 s.at) 36) := ⟨hH.1.trans (hb.mono hH.1.size), row_next hb hH.2.1, row_next hb hH.2.2⟩
    replace V2 := row_next hb V2
    clear hb
    refine hK.out _ _ hH (fun hH => ?_)
    clear hK K
    (try simp only [Act.put, List.setIfInBounds_toArray, List.set_cons_succ, List.set_cons_zero])
    refine wpAnyH_take (i := 3) (v := (.agg (vrow 272 (stAt b s (pfn q))))) rfl (by kernel_rfl) (by kernel_rfl) (by kernel_rfl) (fun _ _ _ h => by cases h.1) (yields_b (by rfl) 134 [(0, .tmp 5), (1, .tmp 6), (2, .tmp 7)] rfl [(0, .agg (vrow 5 b.at)), (1, .agg (vrow 266 s.at)), (2, pfn q)] (by rfl) _ (built_st _ _ _)) hH ?_
    (try simp only [Act.put, List.setIfInBounds_toArray, List.set_cons_succ, List.set_cons_zero])
    refine wpAnyH_ready (rs := [4]) (by kernel_rfl) (by simp) (AllReadyH.cons rfl (fun K hK => ?_) AllReadyH.nil)
    rw [if_pos (by rfl)]
    unfold Oper.wp
    rw [run_storemid 134 (.tmp 4) (.tmp 8) rfl (w.heap.size + 2) 0 rfl 272 272 (stAt Br.zero Sh.zero .nilFunc) (stAt b s (pfn q)) rfl 134 size_st V2 (by omega) (fun i _ => stAt_one _ _ _ i), vrow_over_all, Oper.upon_skip]
    replace V2 := row_set V2 (vrow 272 (stAt b s (pfn q)))
    have hH2 : Below w.heap.size w (X.setRow (w.heap.size + 2) (vrow 272 (stAt b s (pfn q)))) ∧ (X.setRow (w.heap.size + 2) (vrow 272 (stAt b s (pfn q)))).heap[w.heap.size]? = some (.cells (vrow 5 b.at) 49) ∧ (X.setRow (w.heap.size + 2) (vrow 272 (stAt b s (pfn q)))).heap[w.heap.size + 1]? = some (.cells (vrow 266 s.at) 36) := ⟨Below_setRow hH.1 (by omega) _, row_set' (by omega) hH.2.1 _, row_set' (by omega) hH.2.2 _⟩
    refine hK.out _ _ hH2 (fun hH => ?_)
    clear hK K hH2
    (try simp only [Act.put, List.setIfInBounds_toArray, List.set_cons_succ, List.set_cons_zero])
    refine wpAnyH_done (by kernel_rfl) ?_ _
    exact ⟨rfl, rfl, rfl, q, hH.1, V2⟩
  rintro e1 a1 W1 ⟨rfl, h_4, hdf, q, hB1, V2⟩
  go_wp2
  exact ret_row Tryd.results80 (w.heap.size + 2) 272 (stAt b s (pfn q)) 134 _ Tryd.underlying134 rfl size_st h_4 hdf V2 ⟨⟨q, rfl⟩, hB1⟩
theorem stAt_k (b : Br) (s : Sh) (f : Value) (k : Nat) (hk : k < 3) : stAt b s f k = .int .i16 (b.dye k) := by unfold stAt; rw [if_pos (by omega)]; exact b.at_k k hk
theorem stAt_j (b : Br) (s : Sh) (f : Value) (o j : Nat) (ho : o = 71 + j) (hj : j < 192) : stAt b s f o = .int .i16 (s.dye j) := by
  subst ho
  unfold stAt
  rw [if_neg (by omega), if_pos (by omega), show 71 + j - 5 = 66 + j by omega]
  exact Sh.at_dye1 s _ j rfl hj
set_option maxHeartbeats 2000000 in
theorem move_any (C : Br) (G : Sh) (f : Value) (m k o j : Nat) (n v c : Int) (w : World) (hk : k < 3) (ho : o = 71 + j) (hj : j < 192) (hv : G.dye j = v) (hc : C.dye k = c) (hn : 0 ≤ n ∧ n ≤ v) (hvb : v ≤ 1000) (hcb : 0 ≤ c ∧ c ≤ 900 ∧ n ≤ 900) (hm : w.heap[m]? = some (.cells (vrow 272 (stAt C G f)) 134)) :
    Calls Tryd.prog 133 #[.pointer (some ⟨m, o, none⟩), .pointer (some ⟨m, k, none⟩), .int .i16 n] w fun e w' => (∃ r, e = .returned r) ∧ w.grownBy w' (some m) ∧ w'.heap[m]? = some (.cells (vrow 272 (stAt (C.setDye k (c + n)) (G.put j (v - n)) f)) 134) := by
  have M := Go.Lib.hid hm
  have hG := Go.Lib.hid (gr_refl w (some m))
  have HC := Go.Lib.hid hc
  have HV := Go.Lib.hid hv
  have HO := Go.Lib.hid ho
  have ho2 : o < 272 := by omega
  clear ho
  obtain ⟨hn1, hn2⟩ := hn
  obtain ⟨hc1, hc2, hc3⟩ := hcb
  clear hm hc hv
  go_enter Tryd.func133, Tryd.ntmps133
  go_wp2_with (first
    | go_skip
    | ((with_reducible refine wlAt 9 rfl ?_); refine wpList_load1 rfl 23 (.tmp 8) rfl _ o rfl 272 (stAt C G f) 134 _ Tryd.underlying23 rfl M.out (by omega) ?_; rw [stAt_j _ _ _ _ j HO.out hj, HV.out])
    | ((with_reducible refine wlOp (.store 23 (.tmp 12) (.tmp 11)) rfl ?_); refine wpList_store1 rfl 23 (.tmp 12) (.tmp 11) rfl _ o rfl 272 (stAt C G f) (.int .i16 (v - n)) (by first | rfl | (show Value.int .i16 (IntKind.i16.wrap (v - n)) = _; rw [IntWalk.i16_in (v - n) (by omega)])) 134 size_i16 M.out (by omega) rfl ?_; rw [stAt_put _ _ _ _ j HO.out hj]; replace M := Go.Lib.hid (row_set M.out (vrow 272 (stAt C (G.put j (v - n)) f))); replace hG := Go.Lib.hid (gr_set hG.out (vrow 272 (stAt C (G.put j (v - n)) f))))
    | ((with_reducible refine wlAt 15 rfl ?_); refine wpList_load1 rfl 23 (.tmp 14) rfl _ k rfl 272 (stAt C (G.put j (v - n)) f) 134 _ Tryd.underlying23 rfl M.out (by omega) ?_; rw [stAt_k _ _ _ _ hk, HC.out])
    | ((with_reducible refine wlOp (.store 23 (.tmp 18) (.tmp 17)) rfl ?_); refine wpList_store1 rfl 23 (.tmp 18) (.tmp 17) rfl _ k rfl 272 (stAt C (G.put j (v - n)) f) (.int .i16 (c + n)) (by first | rfl | (show Value.int .i16 (IntKind.i16.wrap (c + n)) = _; rw [IntWalk.i16_in (c + n) (by omega)])) 134 size_i16 M.out (by omega) rfl ?_; rw [stAt_dye _ _ _ _ hk]; replace M := Go.Lib.hid (row_set M.out (vrow 272 (stAt (C.setDye k (c + n)) (G.put j (v - n)) f))); replace hG := Go.Lib.hid (gr_set hG.out (vrow 272 (stAt (C.setDye k (c + n)) (G.put j (v - n)) f)))))
  go_ret
  exact ⟨⟨_, rfl⟩, hG.out, M.out⟩
theorem sixt_any (v p : Int) (hv : 0 ≤ v ∧ v ≤ 1000) (hm : 0 ≤ v * p ∧ v * p ≤ 16000) (w : World) : Calls Tryd.prog 134 #[.int .i16 v, .int .i64 p] w fun e w' => e = .returned (.int .i16 (v * p / 16)) ∧ Below w.heap.size w w' := by
  obtain ⟨hv1, hv2⟩ := hv
  obtain ⟨m1, m2⟩ := hm
  go_enter Tryd.func134, Tryd.ntmps134
  go_wp2
  go_ret
  refine ⟨?_, Below.refl _ _⟩
  show Ending.returned (Value.int .i16 _) = _
  first
    | rfl
    | (rw [IntWalk.i64_quo (v * p) 16 (by omega), IntWalk.i16_in (v * p / 16) (by omega)])
    | (simp only [IntWalk.i64_in v (by omega), IntWalk.i64_in (v * p) (by omega), IntWalk.i64_quo (v * p) 16 (by omega), IntWalk.i16_in (v * p / 16) (by omega)])
    | (congr 2; rw [Int.tdiv_eq_ediv_of_nonneg (by omega)])
theorem run_cell {P : Program} {o : Oper} {a : Act} {w : World} {K : Act → World → Prop} {Q : Exit → Act → World → Prop} (ty : TypeId) (x : Operand) (ho : o.op = .load ty x)
    (b off : Nat) (hx : a.eval x = .pointer (some ⟨b, off, none⟩)) (n : Nat) (f : Nat → Value) (t : TypeId) (d : TypeDesc) (hu : P.underlying ty = some d) (hd : d.isRow = false)
    (hg : w.heap[b]? = some (.cells (vrow n f) t)) (hb : off < n) : o.upon P a K Q ((execOp a.eval o).run P w) = K (a.put o.dst (f off)) w := by
  have hc := cell_row hg hb
  have hr : (Instr.loadAt ty (.pointer (some ⟨b, off, none⟩))).run P w = .ok (f off) w := by
    simp only [Instr.loadAt, Instr.sureAddr, Sem.run_bind, Sem.run_pure, Result.andThen_ok, loadVar, run_isAgg_row w ty d hu, hd, Bool.false_eq_true, if_false, run_load, hc]
  unfold execOp
  simp only [ho, hx, Sem.run_bind, hr, Result.andThen_ok, Sem.run_pure]
  rfl
theorem sixt_same (v p : Int) (hv : 0 ≤ v ∧ v ≤ 1000) (hm : 0 ≤ v * p ∧ v * p ≤ 16000) (w : World) : Calls Tryd.prog 134 #[.int .i16 v, .int .i64 p] w fun e w' => e = .returned (.int .i16 (v * p / 16)) ∧ w' = w := by
  obtain ⟨hv1, hv2⟩ := hv
  obtain ⟨m1, m2⟩ := hm
  go_enter Tryd.func134, Tryd.ntmps134
  go_wp2
  go_ret
  refine ⟨?_, rfl⟩
  show Ending.returned (Value.int .i16 _) = _
  first
    | rfl
    | (rw [IntWalk.i64_quo (v * p) 16 (by omega), IntWalk.i16_in (v * p / 16) (by omega)])
    | (simp only [IntWalk.i64_in v (by omega), IntWalk.i64_in (v * p) (by omega), IntWalk.i64_quo (v * p) 16 (by omega), IntWalk.i16_in (v * p / 16) (by omega)])
    | (congr 2; rw [Int.tdiv_eq_ediv_of_nonneg (by omega)])
end Go.Proofs.YtfgcpiipndhllaaDoor
