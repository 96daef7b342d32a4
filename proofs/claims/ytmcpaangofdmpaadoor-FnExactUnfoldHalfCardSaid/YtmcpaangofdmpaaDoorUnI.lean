import Derived.Deep.RegionHeld3
import Derived.Test.YtmcpaangofdmpaaDoorUnC
import Derived.Test.YtmcpaangofdmpaaDoorArrUnf
import Derived.Test.YtmcpaangofdmpaaDoorCodeOf
import Derived.Test.YtmcpaangofdmpaaDoorPartC
import Derived.Test.YtmcpaangofdmpaaDoorG1
namespace Go.Proofs.YtmcpaangofdmpaaDoor
open Go.RowKit
set_option maxRecDepth 100000
set_option linter.unusedVariables false
set_option linter.unusedSimpArgs false
theorem zero_foldU : ∀ w, (zeroValue 38).run Tryd.prog w = .ok (.agg (vrow 3 (foAt 0 false 0))) w := fun _ => by kernel_rfl
theorem foAt_oneU (a : Int) (b : Bool) (c : Int) (i : Nat) : (foAt a b c i).oneCell' = true := by unfold foAt; split <;> (try split) <;> rfl
theorem zero_fnU : ∀ w, (zeroValue 113).run Tryd.prog w = .ok .nilFunc w := fun _ => by kernel_rfl
theorem built_foU (x : Int) : Tryd.prog.built 38 [(0, .int .i8 x)] = some (vrow 3 (foAt x false 0)) := by kernel_rfl
theorem built_foUT (x : Int) : Tryd.prog.built 38 [(0, .int .i8 x), (1, .bool true)] = some (vrow 3 (foAt x true 0)) := by kernel_rfl
theorem built_foUD (x : Int) (d : Bool) : Tryd.prog.built 38 [(0, .int .i8 x), (1, .bool d)] = some (vrow 3 (foAt x d 0)) := by kernel_rfl
theorem quiet_builtU {P : Program} {ops : Array Oper} {C : World → Prop} {Q : Act → Prop} {rest : List Oper} {o : Oper} {a : Act} (hw : Region.wanted o (yielded ops a.tmps) = true) (ty : TypeId) (parts : List (Nat × Operand)) (ho : o.op = .build ty parts.toArray)
    (l : List (Nat × Value)) (hl : (parts.map fun p => (p.1, a.eval p.2)) = l) (cells : Array Value) (hc : P.built ty l = some cells)
    (h : wpQuiet P ops C Q rest (a.put o.dst (.agg cells))) : wpQuiet P ops C Q (o :: rest) a := by
  have e : ((parts.toArray.map fun (i, x) => (i, a.eval x)).toList) = l := by rw [← hl]; simp
  refine wpQuiet_want' hw fun K hK => ⟨.agg cells, fun w _ => ?_, hK _ h⟩
  have hr : (execOp a.eval o).run P w = .ok (.value (.agg cells)) w := by
    unfold execOp
    simp only [ho, Sem.run_bind, run_build w ty _ cells (by rw [e, hc]), Result.andThen_ok, Sem.run_pure]
  unfold Oper.quietAt
  rw [hr]
  exact ⟨rfl, rfl⟩
theorem yields_builtU {P : Program} {ops : Array Oper} {S : World → Prop} {o : Oper} {a : Act} (hw : Region.wanted o (yielded ops a.tmps) = true) (ty : TypeId) (parts : List (Nat × Operand)) (ho : o.op = .build ty parts.toArray)
    (l : List (Nat × Value)) (hl : (parts.map fun p => (p.1, a.eval p.2)) = l) (cells : Array Value) (hc : P.built ty l = some cells) : YieldsIf P ops S o (.agg cells) a := by
  have e : ((parts.toArray.map fun (i, x) => (i, a.eval x)).toList) = l := by rw [← hl]; simp
  exact .inl ⟨hw, fun w _ => by
    unfold execOp
    simp only [ho, Sem.run_bind, run_build w ty _ cells (by rw [e, hc]), Result.andThen_ok, Sem.run_pure]⟩
theorem unX_lt {d : Bool} {a x : Nat} (ha : (if d then a else 2 * a) ≤ 8) (hx : x < if d then a else 2 * a) : unX d a x < 8 := by
  unfold unX; cases d <;> simp at * <;> (try split) <;> omega
theorem unY_lt {d : Bool} {c y : Nat} (hc : (if d then 2 * c else c) ≤ 8) (hy : y < if d then 2 * c else c) : unY d c y < 8 := by
  unfold unY; cases d <;> simp at * <;> (try split) <;> omega
theorem size_func1U : (Tryd.prog.info? 113).map (·.size) = some 1 := by kernel_rfl
set_option maxHeartbeats 2000000 in
theorem implUn_bad (s : Sh) (d : Bool) (e : ErrE) (w : World) (hE : Errs e w) (hv : okI s = false) (hf : s.fit := by assumption) : Calls Tryd.prog 32 #[.agg s.row, .bool d] w fun o w' => o = .returned (.tuple #[.agg Sh.zero.row, .int .i64 1]) ∧ Below w.heap.size w w' := by
  have HC := Go.Lib.hid fun w hE => checkSheet_bad s hv e w hE
  clear hv
  have zz := zero_sheet
  have P : Hid (((w.alloc (.cells (vrow 266 s.at) 34)).alloc (.cells (vrow 266 Sh.zero.at) 34)).heap[w.heap.size]? = some (.cells (vrow 266 s.at) 34)) := (heap_past _ _ _ _ (by simp <;> omega) (heap_at _ _ _ (by simp)))
  have Z : Hid (((w.alloc (.cells (vrow 266 s.at) 34)).alloc (.cells (vrow 266 Sh.zero.at) 34)).heap[w.heap.size + 1]? = some (.cells (vrow 266 Sh.zero.at) 34)) := (heap_at _ _ _ (by simp))
  have hB : Hid (Below w.heap.size w ((w.alloc (.cells (vrow 266 s.at) 34)).alloc (.cells (vrow 266 Sh.zero.at) 34))) := Go.Lib.hid (((Below.refl w.heap.size w).alloc (by simp <;> omega) _).alloc (by simp <;> omega) _)
  have E : Hid (Errs e ((w.alloc (.cells (vrow 266 s.at) 34)).alloc (.cells (vrow 266 Sh.zero.at) 34))) := Go.Lib.hid ((hE.alloc _).alloc _)
  go_enter Tryd.func32, Tryd.ntmps32
  go_wp2_with (first
    | go_skip
    | ((with_reducible refine wlAt 15 rfl ?_); refine wpList_built rfl 34 [] rfl [] (by rfl) _ built_zero ?_)
    | ((with_reducible refine wlAt 11 rfl ?_); refine wpList_loadall rfl 34 (.tmp 2) rfl w.heap.size rfl 266 s.at 34 _ Tryd.underlying34 rfl size_sheet P.out ?_)
    | ((with_reducible refine wlOp (.store 34 (.tmp 4) (.tmp 15)) rfl ?_); refine wpList_storeall rfl 34 (.tmp 4) (.tmp 15) rfl (w.heap.size + 1) rfl 266 Sh.zero.at Sh.zero.at rfl 34 size_sheet Z.out (fun i _ => Sh.one _ i) ?_; replace Z := Go.Lib.hid (row_set Z.out (vrow 266 Sh.zero.at)); replace hB := Go.Lib.hid (Below_setRow hB.out (show w.heap.size ≤ w.heap.size + 1 by omega) (vrow 266 Sh.zero.at)))
    | (go_at_call 62; (refine (HC.out _ E.out).mono ?_; rintro o w1 ⟨rfl, hb⟩; replace P := Go.Lib.hid (row_next hb P.out); replace Z := Go.Lib.hid (row_next hb Z.out); replace hB := Go.Lib.hid (below_next hB.out hb); replace E := Go.Lib.hid (E.out.next hb); clear hb))
    | (go_at_call 63; (refine (codeOf_1 e _ E.out).mono ?_; rintro o w1 ⟨rfl, hb⟩; replace P := Go.Lib.hid (row_next hb P.out); replace Z := Go.Lib.hid (row_next hb Z.out); replace hB := Go.Lib.hid (below_next hB.out hb); replace E := Go.Lib.hid (E.out.next hb); clear hb)))
  exact ret_row2 Tryd.results32 (w.heap.size + 1) 266 Sh.zero.at 34 _ Tryd.underlying34 rfl size_sheet (.int .i64 1) rfl rfl rfl Z.out ⟨rfl, hB.out⟩
set_option maxHeartbeats 8000000 in
theorem implUn_v_lim (s : Sh) (e : ErrE) (w : World) (hE : Errs e w) (hv : okI s = true) (a c : Nat) (ea0 : s.wide = a) (ec0 : s.high = c) (ha : 1 ≤ a ∧ a ≤ 8) (hc : 1 ≤ c ∧ c ≤ 8) (hbig : 8 < 2 * a) : Calls Tryd.prog 32 #[.agg s.row, .bool false] w fun o w' => o = .returned (.tuple #[.agg (Sh.zero).row, .int .i64 3]) ∧ Below w.heap.size w w' := by
  have HC := Go.Lib.hid fun w hE => checkSheet_ok s hv e w hE
  clear hv
  have ea := Go.Lib.hid ea0; have ec := Go.Lib.hid ec0
  clear ea0 ec0
  have zz := zero_sheet
  have zf := zero_foldU
  have zn := zero_fnU
  have hw2 : IntKind.i8.wrap (2 * (a : Int)) = 2 * (a : Int) := IntWalk.i8_in _ (by omega)
  have hw3 : IntKind.i8.wrap (2 * (c : Int)) = 2 * (c : Int) := IntWalk.i8_in _ (by omega)
  have hmf : ∀ (fn : Fn) (first cap : Array Value) (w : World), (Instr.makeFunc fn first cap).run Tryd.prog w = .ok (.func fn first cap) w := fun _ _ _ _ => rfl
  have hg : decide ((8 : Int) < 2 * (a : Int)) = true := by simp; omega
  have hg2 : decide ((8 : Int) < (c : Int)) = false := by simp; omega
  have P : Hid (((w.alloc (.cells (vrow 266 s.at) 34)).alloc (.cells (vrow 266 Sh.zero.at) 34)).heap[w.heap.size]? = some (.cells (vrow 266 s.at) 34)) := (heap_past _ _ _ _ (by simp <;> omega) (heap_at _ _ _ (by simp)))
  have Z : Hid (((w.alloc (.cells (vrow 266 s.at) 34)).alloc (.cells (vrow 266 Sh.zero.at) 34)).heap[w.heap.size + 1]? = some (.cells (vrow 266 Sh.zero.at) 34)) := (heap_at _ _ _ (by simp))
  have hB : Hid (Below w.heap.size w ((w.alloc (.cells (vrow 266 s.at) 34)).alloc (.cells (vrow 266 Sh.zero.at) 34))) := Go.Lib.hid (((Below.refl w.heap.size w).alloc (by simp <;> omega) _).alloc (by simp <;> omega) _)
  have E : Hid (Errs e ((w.alloc (.cells (vrow 266 s.at) 34)).alloc (.cells (vrow 266 Sh.zero.at) 34))) := Go.Lib.hid ((hE.alloc _).alloc _)
  go_enter Tryd.func32, Tryd.ntmps32
  go_wp2_with (first
    | go_skip
    | ((with_reducible refine wlAt 11 rfl ?_); refine wpList_loadall rfl 34 (.tmp 2) rfl w.heap.size rfl 266 s.at 34 _ Tryd.underlying34 rfl size_sheet P.out ?_)
    | (go_at_call 62; (refine (HC.out _ E.out).mono ?_; rintro o w1 ⟨rfl, hb⟩; replace P := Go.Lib.hid (row_next hb P.out); replace Z := Go.Lib.hid (row_next hb Z.out); replace hB := Go.Lib.hid (below_next hB.out hb); replace E := Go.Lib.hid (E.out.next hb); clear hb))
    | fail)
  clear E
  (try simp only [Act.put])
  refine wp_region_noPanic ?_
  refine wp_region_held_drew (S := fun X => Below w.heap.size w X ∧ X.heap[w.heap.size]? = some (.cells (vrow 266 s.at) 34) ∧ X.heap[w.heap.size + 1]? = some (.cells (vrow 266 Sh.zero.at) 34)) (by kernel_rfl) ⟨hB.out.drew, P.out, Z.out⟩ (fun hH => ?_)
  clear hB P Z
  generalize World.drew _ = W at hH ⊢
  refine wpAnyH_take (i := 0) (v := (.pointer (some ⟨w.heap.size, 0, none⟩))) rfl (by kernel_rfl) (by kernel_rfl) (by kernel_rfl) (fun _ _ _ h => h) (.inl ⟨by kernel_rfl, fun w hw => by go_simp⟩) hH ?_
  (try simp only [List.getElem_toArray, List.getElem_cons_succ, List.getElem_cons_zero, Act.put, List.setIfInBounds_toArray, List.set_cons_succ, List.set_cons_zero])
  refine wpAnyH_take (i := 1) (v := (.int .i8 a)) rfl (by kernel_rfl) (by kernel_rfl) (by kernel_rfl) (fun _ _ _ h => h) ((by rw [show (Value.int .i8 (a : Int)) = s.at 0 by rw [Sh.at_0, ea.out]]; exact yields_one (by kernel_rfl) 22 _ rfl w.heap.size 0 rfl 266 s.at 34 _ Tryd.underlying22 rfl (by omega) (fun _ h => h.2.1))) hH ?_
  (try simp only [List.getElem_toArray, List.getElem_cons_succ, List.getElem_cons_zero, Act.put, List.setIfInBounds_toArray, List.set_cons_succ, List.set_cons_zero])
  refine wpAnyH_take (i := 2) (v := (.agg (vrow 3 (foAt a false 0)))) rfl (by kernel_rfl) (by kernel_rfl) (by kernel_rfl) (fun _ _ _ h => h) (yields_builtU (by kernel_rfl) 38 [(0, .tmp 19)] rfl [(0, .int .i8 a)] (by rfl) _ (built_foU a)) hH ?_
  (try simp only [List.getElem_toArray, List.getElem_cons_succ, List.getElem_cons_zero, Act.put, List.setIfInBounds_toArray, List.set_cons_succ, List.set_cons_zero])
  refine wpAnyH_take (i := 3) (v := (.pointer (some ⟨w.heap.size, 0, none⟩))) rfl (by kernel_rfl) (by kernel_rfl) (by kernel_rfl) (fun _ _ _ h => h) (.inl ⟨by kernel_rfl, fun w hw => by go_simp⟩) hH ?_
  (try simp only [List.getElem_toArray, List.getElem_cons_succ, List.getElem_cons_zero, Act.put, List.setIfInBounds_toArray, List.set_cons_succ, List.set_cons_zero])
  refine wpAnyH_take (i := 4) (v := (.int .i8 a)) rfl (by kernel_rfl) (by kernel_rfl) (by kernel_rfl) (fun _ _ _ h => h) ((by rw [show (Value.int .i8 (a : Int)) = s.at 0 by rw [Sh.at_0, ea.out]]; exact yields_one (by kernel_rfl) 22 _ rfl w.heap.size 0 rfl 266 s.at 34 _ Tryd.underlying22 rfl (by omega) (fun _ h => h.2.1))) hH ?_
  (try simp only [List.getElem_toArray, List.getElem_cons_succ, List.getElem_cons_zero, Act.put, List.setIfInBounds_toArray, List.set_cons_succ, List.set_cons_zero])
  refine wpAnyH_take (i := 5) (v := (.int .i8 (2 * (a : Int)))) rfl (by kernel_rfl) (by kernel_rfl) (by kernel_rfl) (fun _ _ _ h => h) (.inl ⟨by kernel_rfl, fun w hw => by go_simp⟩) hH ?_
  (try simp only [List.getElem_toArray, List.getElem_cons_succ, List.getElem_cons_zero, Act.put, List.setIfInBounds_toArray, List.set_cons_succ, List.set_cons_zero])
  refine wpAnyH_take (i := 6) (v := (.pointer (some ⟨w.heap.size, 1, none⟩))) rfl (by kernel_rfl) (by kernel_rfl) (by kernel_rfl) (fun _ _ _ h => h) (.inl ⟨by kernel_rfl, fun w hw => by go_simp⟩) hH ?_
  (try simp only [List.getElem_toArray, List.getElem_cons_succ, List.getElem_cons_zero, Act.put, List.setIfInBounds_toArray, List.set_cons_succ, List.set_cons_zero])
  refine wpAnyH_take (i := 7) (v := (.int .i8 c)) rfl (by kernel_rfl) (by kernel_rfl) (by kernel_rfl) (fun _ _ _ h => h) ((by rw [show (Value.int .i8 (c : Int)) = s.at 1 by rw [Sh.at_1, ec.out]]; exact yields_one (by kernel_rfl) 22 _ rfl w.heap.size 1 rfl 266 s.at 34 _ Tryd.underlying22 rfl (by omega) (fun _ h => h.2.1))) hH ?_
  (try simp only [List.getElem_toArray, List.getElem_cons_succ, List.getElem_cons_zero, Act.put, List.setIfInBounds_toArray, List.set_cons_succ, List.set_cons_zero])
  refine wpAnyH_ready (rs := [8]) (by kernel_rfl) (by simp) (AllReadyH.cons rfl (fun K hK => ?_) AllReadyH.nil)
  rw [if_pos (by rfl)]
  go_simp
  have V := heap_at W (.cells (vrow 3 (foAt 0 false 0)) 38) _ rfl
  have n0 := row_lt hH.2.1; have n1 := row_lt hH.2.2
  replace hH : Below w.heap.size w (W.alloc (.cells (vrow 3 (foAt 0 false 0)) 38)) ∧ (W.alloc (.cells (vrow 3 (foAt 0 false 0)) 38)).heap[w.heap.size]? = some (.cells (vrow 266 s.at) 34) ∧ (W.alloc (.cells (vrow 3 (foAt 0 false 0)) 38)).heap[w.heap.size + 1]? = some (.cells (vrow 266 Sh.zero.at) 34) := ⟨hH.1.alloc hH.1.size _, heap_past _ _ _ _ n0 hH.2.1, heap_past _ _ _ _ n1 hH.2.2⟩
  refine hK.out _ _ hH (fun hH => ?_)
  clear hK K
  (try simp only [List.getElem_toArray, List.getElem_cons_succ, List.getElem_cons_zero, Act.put, List.setIfInBounds_toArray, List.set_cons_succ, List.set_cons_zero])
  obtain ⟨mb, hmb⟩ : ∃ z, W.heap.size = z := ⟨_, rfl⟩
  rw [hmb] at V n0 n1 ⊢
  generalize W.alloc _ = W3 at hH V ⊢
  clear hmb
  refine wpAnyH_ready (rs := [9]) (by kernel_rfl) (by simp) (AllReadyH.cons rfl (fun K hK => ?_) AllReadyH.nil)
  rw [if_pos (by rfl)]
  unfold Oper.wp
  rw [run_storemid 38 (.tmp 7) (.tmp 20) rfl mb 0 rfl 3 3 (foAt 0 false 0) (foAt a false 0) rfl 38 size_fold V (by omega) (fun i _ => foAt_oneU _ _ _ i), vrow_over_all, Oper.upon_skip]
  replace V := row_set V (vrow 3 (foAt a false 0))
  have hH2 : Below w.heap.size w (W3.setRow mb (vrow 3 (foAt a false 0))) ∧ (W3.setRow mb (vrow 3 (foAt a false 0))).heap[w.heap.size]? = some (.cells (vrow 266 s.at) 34) ∧ (W3.setRow mb (vrow 3 (foAt a false 0))).heap[w.heap.size + 1]? = some (.cells (vrow 266 Sh.zero.at) 34) := ⟨Below_setRow hH.1 (by omega) _, row_set' (g := mb) (by omega) hH.2.1 _, row_set' (g := mb) (by omega) hH.2.2 _⟩
  refine hK.out _ _ hH2 (fun hH => ?_)
  clear hK K hH2
  (try simp only [List.getElem_toArray, List.getElem_cons_succ, List.getElem_cons_zero, Act.put, List.setIfInBounds_toArray, List.set_cons_succ, List.set_cons_zero])
  obtain ⟨W3x, hWx⟩ : ∃ z, World.setRow W3 mb (vrow 3 (foAt a false 0)) = z := ⟨_, rfl⟩
  rw [hWx] at hH V ⊢
  clear hWx
  refine wpAnyH_take (i := 10) (v := (.int .i8 (2 * (a : Int)))) rfl (by kernel_rfl) (by kernel_rfl) (by kernel_rfl) (fun _ _ _ h => h) (.inl ⟨by kernel_rfl, fun w hw => by go_simp⟩) hH ?_
  (try simp only [List.getElem_toArray, List.getElem_cons_succ, List.getElem_cons_zero, Act.put, List.setIfInBounds_toArray, List.set_cons_succ, List.set_cons_zero])
  refine wpAnyH_take (i := 11) (v := (.int .i8 (c : Int))) rfl (by kernel_rfl) (by kernel_rfl) (by kernel_rfl) (fun _ _ _ h => h) (.inl ⟨by kernel_rfl, fun w hw => by go_simp⟩) hH ?_
  (try simp only [List.getElem_toArray, List.getElem_cons_succ, List.getElem_cons_zero, Act.put, List.setIfInBounds_toArray, List.set_cons_succ, List.set_cons_zero])
  refine wpAnyH_done (by kernel_rfl) ?_ _
  refine NoPanic.normal ?_
  (try simp only [List.getElem_toArray, List.getElem_cons_succ, List.getElem_cons_zero, Act.put, List.setIfInBounds_toArray, List.set_cons_succ, List.set_cons_zero])
  obtain ⟨hB, P, Z⟩ := hH
  replace hB := Go.Lib.hid hB; replace P := Go.Lib.hid P; replace Z := Go.Lib.hid Z; replace V := Go.Lib.hid V
  go_wp2_with (first
    | go_skip
    | ((with_reducible refine wlAt 41 rfl ?_); refine wpList_built rfl 34 [] rfl [] (by rfl) _ built_zero ?_)
    | ((with_reducible refine wlOp (.store 34 (.tmp 4) (.tmp 41)) rfl ?_); refine wpList_storeall rfl 34 (.tmp 4) (.tmp 41) rfl (w.heap.size + 1) rfl 266 Sh.zero.at Sh.zero.at rfl 34 size_sheet Z.out (fun i _ => Sh.one _ i) ?_; replace Z := Go.Lib.hid (row_set Z.out (vrow 266 Sh.zero.at)); replace hB := Go.Lib.hid (Below_setRow hB.out (show w.heap.size ≤ w.heap.size + 1 by omega) (vrow 266 Sh.zero.at))))
  exact ret_row2 Tryd.results32 (w.heap.size + 1) 266 Sh.zero.at 34 _ Tryd.underlying34 rfl size_sheet (.int .i64 3) rfl rfl rfl Z.out ⟨rfl, hB.out⟩
set_option maxHeartbeats 8000000 in
theorem implUn_v_ok (s : Sh) (e : ErrE) (w : World) (hE : Errs e w) (hv : okI s = true) (a c : Nat) (ea0 : s.wide = a) (ec0 : s.high = c) (ha : 1 ≤ a ∧ a ≤ 8) (hc : 1 ≤ c ∧ c ≤ 8) (hbig : 2 * a ≤ 8) : Calls Tryd.prog 32 #[.agg s.row, .bool false] w fun o w' => o = .returned (.tuple #[.agg ((arrI s (fun x y => unX false a x) (fun x y => unY false c y) (plainSh (((2 * a : Nat) : Int)) (((c : Nat) : Int))) (pairsL (2 * a) (c)))).row, .int .i64 0]) ∧ Below w.heap.size w w' := by
  have HC := Go.Lib.hid fun w hE => checkSheet_ok s hv e w hE
  clear hv
  have ea := Go.Lib.hid ea0; have ec := Go.Lib.hid ec0
  have HT := fun w => turn_any (a : Int) false 0 w (by omega)
  simp only [fo_vrow] at HT
  replace HT := Go.Lib.hid HT
  have HM := Go.Lib.hid fun (b2 b3 : Nat) (W : World) (h1 : W.heap[w.heap.size]? = some (.cells (vrow 266 s.at) 34)) (h2 : W.heap[b2]? = some (.cells (vrow 1 fun _ => turnV false b3) 113)) (h3 : W.heap[b3]? = some (.cells (vrow 1 fun _ => .int .i8 (2 * (a : Int) - 1)) 22)) => arrUnf s w.heap.size b2 (2 * a) (c) (fun x y => unX false a x) (fun x y => unY false c y) (by omega) (by omega) (fun x y hx hy => ⟨unX_lt (d := false) (by simp; omega) (by simpa using hx), unY_lt (d := false) (by simp; omega) (by simpa using hy)⟩) W h1 (fun x y W' hx hy hW hb => un1_any s w.heap.size b2 b3 a c false _ x y W' hW (row_next hb h2) (row_next hb h3) ea0 ec0 ha hc rfl (by simpa using hx) (by simpa using hy))
  clear ea0 ec0
  generalize hr : (arrI s (fun x y => unX false a x) (fun x y => unY false c y) (plainSh (↑(2 * a)) (↑(c))) (pairsL (2 * a) (c))) = r at *
  clear hr
  have zz := zero_sheet
  have zf := zero_foldU
  have zn := zero_fnU
  have hw2 : IntKind.i8.wrap (2 * (a : Int)) = 2 * (a : Int) := IntWalk.i8_in _ (by omega)
  have hw3 : IntKind.i8.wrap (2 * (c : Int)) = 2 * (c : Int) := IntWalk.i8_in _ (by omega)
  have hmf : ∀ (fn : Fn) (first cap : Array Value) (w : World), (Instr.makeFunc fn first cap).run Tryd.prog w = .ok (.func fn first cap) w := fun _ _ _ _ => rfl
  have hg : decide ((8 : Int) < 2 * (a : Int)) = false := by simp; omega
  have hg2 : decide ((8 : Int) < (c : Int)) = false := by simp; omega
  have P : Hid (((w.alloc (.cells (vrow 266 s.at) 34)).alloc (.cells (vrow 266 Sh.zero.at) 34)).heap[w.heap.size]? = some (.cells (vrow 266 s.at) 34)) := (heap_past _ _ _ _ (by simp <;> omega) (heap_at _ _ _ (by simp)))
  have Z : Hid (((w.alloc (.cells (vrow 266 s.at) 34)).alloc (.cells (vrow 266 Sh.zero.at) 34)).heap[w.heap.size + 1]? = some (.cells (vrow 266 Sh.zero.at) 34)) := (heap_at _ _ _ (by simp))
  have hB : Hid (Below w.heap.size w ((w.alloc (.cells (vrow 266 s.at) 34)).alloc (.cells (vrow 266 Sh.zero.at) 34))) := Go.Lib.hid (((Below.refl w.heap.size w).alloc (by simp <;> omega) _).alloc (by simp <;> omega) _)
  have E : Hid (Errs e ((w.alloc (.cells (vrow 266 s.at) 34)).alloc (.cells (vrow 266 Sh.zero.at) 34))) := Go.Lib.hid ((hE.alloc _).alloc _)
  go_enter Tryd.func32, Tryd.ntmps32
  go_wp2_with (first
    | go_skip
    | ((with_reducible refine wlAt 11 rfl ?_); refine wpList_loadall rfl 34 (.tmp 2) rfl w.heap.size rfl 266 s.at 34 _ Tryd.underlying34 rfl size_sheet P.out ?_)
    | (go_at_call 62; (refine (HC.out _ E.out).mono ?_; rintro o w1 ⟨rfl, hb⟩; replace P := Go.Lib.hid (row_next hb P.out); replace Z := Go.Lib.hid (row_next hb Z.out); replace hB := Go.Lib.hid (below_next hB.out hb); replace E := Go.Lib.hid (E.out.next hb); clear hb))
    | fail)
  clear E
  (try simp only [Act.put])
  refine wp_region_noPanic ?_
  refine wp_region_held_drew (S := fun X => Below w.heap.size w X ∧ X.heap[w.heap.size]? = some (.cells (vrow 266 s.at) 34) ∧ X.heap[w.heap.size + 1]? = some (.cells (vrow 266 Sh.zero.at) 34)) (by kernel_rfl) ⟨hB.out.drew, P.out, Z.out⟩ (fun hH => ?_)
  clear hB P Z
  generalize World.drew _ = W at hH ⊢
  refine wpAnyH_take (i := 0) (v := (.pointer (some ⟨w.heap.size, 0, none⟩))) rfl (by kernel_rfl) (by kernel_rfl) (by kernel_rfl) (fun _ _ _ h => h) (.inl ⟨by kernel_rfl, fun w hw => by go_simp⟩) hH ?_
  (try simp only [List.getElem_toArray, List.getElem_cons_succ, List.getElem_cons_zero, Act.put, List.setIfInBounds_toArray, List.set_cons_succ, List.set_cons_zero])
  refine wpAnyH_take (i := 1) (v := (.int .i8 a)) rfl (by kernel_rfl) (by kernel_rfl) (by kernel_rfl) (fun _ _ _ h => h) ((by rw [show (Value.int .i8 (a : Int)) = s.at 0 by rw [Sh.at_0, ea.out]]; exact yields_one (by kernel_rfl) 22 _ rfl w.heap.size 0 rfl 266 s.at 34 _ Tryd.underlying22 rfl (by omega) (fun _ h => h.2.1))) hH ?_
  (try simp only [List.getElem_toArray, List.getElem_cons_succ, List.getElem_cons_zero, Act.put, List.setIfInBounds_toArray, List.set_cons_succ, List.set_cons_zero])
  refine wpAnyH_take (i := 2) (v := (.agg (vrow 3 (foAt a false 0)))) rfl (by kernel_rfl) (by kernel_rfl) (by kernel_rfl) (fun _ _ _ h => h) (yields_builtU (by kernel_rfl) 38 [(0, .tmp 19)] rfl [(0, .int .i8 a)] (by rfl) _ (built_foU a)) hH ?_
  (try simp only [List.getElem_toArray, List.getElem_cons_succ, List.getElem_cons_zero, Act.put, List.setIfInBounds_toArray, List.set_cons_succ, List.set_cons_zero])
  refine wpAnyH_take (i := 3) (v := (.pointer (some ⟨w.heap.size, 0, none⟩))) rfl (by kernel_rfl) (by kernel_rfl) (by kernel_rfl) (fun _ _ _ h => h) (.inl ⟨by kernel_rfl, fun w hw => by go_simp⟩) hH ?_
  (try simp only [List.getElem_toArray, List.getElem_cons_succ, List.getElem_cons_zero, Act.put, List.setIfInBounds_toArray, List.set_cons_succ, List.set_cons_zero])
  refine wpAnyH_take (i := 4) (v := (.int .i8 a)) rfl (by kernel_rfl) (by kernel_rfl) (by kernel_rfl) (fun _ _ _ h => h) ((by rw [show (Value.int .i8 (a : Int)) = s.at 0 by rw [Sh.at_0, ea.out]]; exact yields_one (by kernel_rfl) 22 _ rfl w.heap.size 0 rfl 266 s.at 34 _ Tryd.underlying22 rfl (by omega) (fun _ h => h.2.1))) hH ?_
  (try simp only [List.getElem_toArray, List.getElem_cons_succ, List.getElem_cons_zero, Act.put, List.setIfInBounds_toArray, List.set_cons_succ, List.set_cons_zero])
  refine wpAnyH_take (i := 5) (v := (.int .i8 (2 * (a : Int)))) rfl (by kernel_rfl) (by kernel_rfl) (by kernel_rfl) (fun _ _ _ h => h) (.inl ⟨by kernel_rfl, fun w hw => by go_simp⟩) hH ?_
  (try simp only [List.getElem_toArray, List.getElem_cons_succ, List.getElem_cons_zero, Act.put, List.setIfInBounds_toArray, List.set_cons_succ, List.set_cons_zero])
  refine wpAnyH_take (i := 6) (v := (.pointer (some ⟨w.heap.size, 1, none⟩))) rfl (by kernel_rfl) (by kernel_rfl) (by kernel_rfl) (fun _ _ _ h => h) (.inl ⟨by kernel_rfl, fun w hw => by go_simp⟩) hH ?_
  (try simp only [List.getElem_toArray, List.getElem_cons_succ, List.getElem_cons_zero, Act.put, List.setIfInBounds_toArray, List.set_cons_succ, List.set_cons_zero])
  refine wpAnyH_take (i := 7) (v := (.int .i8 c)) rfl (by kernel_rfl) (by kernel_rfl) (by kernel_rfl) (fun _ _ _ h => h) ((by rw [show (Value.int .i8 (c : Int)) = s.at 1 by rw [Sh.at_1, ec.out]]; exact yields_one (by kernel_rfl) 22 _ rfl w.heap.size 1 rfl 266 s.at 34 _ Tryd.underlying22 rfl (by omega) (fun _ h => h.2.1))) hH ?_
  (try simp only [List.getElem_toArray, List.getElem_cons_succ, List.getElem_cons_zero, Act.put, List.setIfInBounds_toArray, List.set_cons_succ, List.set_cons_zero])
  refine wpAnyH_ready (rs := [8]) (by kernel_rfl) (by simp) (AllReadyH.cons rfl (fun K hK => ?_) AllReadyH.nil)
  rw [if_pos (by rfl)]
  go_simp
  have V := heap_at W (.cells (vrow 3 (foAt 0 false 0)) 38) _ rfl
  have n0 := row_lt hH.2.1; have n1 := row_lt hH.2.2
  replace hH : Below w.heap.size w (W.alloc (.cells (vrow 3 (foAt 0 false 0)) 38)) ∧ (W.alloc (.cells (vrow 3 (foAt 0 false 0)) 38)).heap[w.heap.size]? = some (.cells (vrow 266 s.at) 34) ∧ (W.alloc (.cells (vrow 3 (foAt 0 false 0)) 38)).heap[w.heap.size + 1]? = some (.cells (vrow 266 Sh.zero.at) 34) := ⟨hH.1.alloc hH.1.size _, heap_past _ _ _ _ n0 hH.2.1, heap_past _ _ _ _ n1 hH.2.2⟩
  refine hK.out _ _ hH (fun hH => ?_)
  clear hK K
  (try simp only [List.getElem_toArray, List.getElem_cons_succ, List.getElem_cons_zero, Act.put, List.setIfInBounds_toArray, List.set_cons_succ, List.set_cons_zero])
  obtain ⟨mb, hmb⟩ : ∃ z, W.heap.size = z := ⟨_, rfl⟩
  rw [hmb] at V n0 n1 ⊢
  generalize W.alloc _ = W3 at hH V ⊢
  clear hmb
  refine wpAnyH_ready (rs := [9]) (by kernel_rfl) (by simp) (AllReadyH.cons rfl (fun K hK => ?_) AllReadyH.nil)
  rw [if_pos (by rfl)]
  unfold Oper.wp
  rw [run_storemid 38 (.tmp 7) (.tmp 20) rfl mb 0 rfl 3 3 (foAt 0 false 0) (foAt a false 0) rfl 38 size_fold V (by omega) (fun i _ => foAt_oneU _ _ _ i), vrow_over_all, Oper.upon_skip]
  replace V := row_set V (vrow 3 (foAt a false 0))
  have hH2 : Below w.heap.size w (W3.setRow mb (vrow 3 (foAt a false 0))) ∧ (W3.setRow mb (vrow 3 (foAt a false 0))).heap[w.heap.size]? = some (.cells (vrow 266 s.at) 34) ∧ (W3.setRow mb (vrow 3 (foAt a false 0))).heap[w.heap.size + 1]? = some (.cells (vrow 266 Sh.zero.at) 34) := ⟨Below_setRow hH.1 (by omega) _, row_set' (g := mb) (by omega) hH.2.1 _, row_set' (g := mb) (by omega) hH.2.2 _⟩
  refine hK.out _ _ hH2 (fun hH => ?_)
  clear hK K hH2
  (try simp only [List.getElem_toArray, List.getElem_cons_succ, List.getElem_cons_zero, Act.put, List.setIfInBounds_toArray, List.set_cons_succ, List.set_cons_zero])
  obtain ⟨W3x, hWx⟩ : ∃ z, World.setRow W3 mb (vrow 3 (foAt a false 0)) = z := ⟨_, rfl⟩
  rw [hWx] at hH V ⊢
  clear hWx
  refine wpAnyH_take (i := 10) (v := (.int .i8 (2 * (a : Int)))) rfl (by kernel_rfl) (by kernel_rfl) (by kernel_rfl) (fun _ _ _ h => h) (.inl ⟨by kernel_rfl, fun w hw => by go_simp⟩) hH ?_
  (try simp only [List.getElem_toArray, List.getElem_cons_succ, List.getElem_cons_zero, Act.put, List.setIfInBounds_toArray, List.set_cons_succ, List.set_cons_zero])
  refine wpAnyH_take (i := 11) (v := (.int .i8 (c : Int))) rfl (by kernel_rfl) (by kernel_rfl) (by kernel_rfl) (fun _ _ _ h => h) (.inl ⟨by kernel_rfl, fun w hw => by go_simp⟩) hH ?_
  (try simp only [List.getElem_toArray, List.getElem_cons_succ, List.getElem_cons_zero, Act.put, List.setIfInBounds_toArray, List.set_cons_succ, List.set_cons_zero])
  refine wpAnyH_done (by kernel_rfl) ?_ _
  refine NoPanic.normal ?_
  (try simp only [List.getElem_toArray, List.getElem_cons_succ, List.getElem_cons_zero, Act.put, List.setIfInBounds_toArray, List.set_cons_succ, List.set_cons_zero])
  obtain ⟨hB, P, Z⟩ := hH
  replace hB := Go.Lib.hid hB; replace P := Go.Lib.hid P; replace Z := Go.Lib.hid Z; replace V := Go.Lib.hid V
  go_wp2_with (first
    | go_skip
    | ((with_reducible refine wlAt 42 rfl ?_); refine wpList_loadall rfl 38 (.tmp 7) rfl mb rfl 3 (foAt a false 0) 38 _ Tryd.underlying38 rfl size_fold V.out ?_)
    | (go_at_call 74; (refine (HT.out _).mono ?_); rintro o w6 ⟨rfl, hU, hb⟩; obtain ⟨b3, hb3⟩ : ∃ z, W3x.heap.size + 1 = z := ⟨_, rfl⟩; simp only [hb3] at hU ⊢; clear hb3; have U := Go.Lib.hid hU; clear hU; replace P := Go.Lib.hid (row_next hb P.out); replace Z := Go.Lib.hid (row_next hb Z.out); replace hB := Go.Lib.hid (below_next hB.out hb); clear hb V)
    | ((with_reducible refine wlOp (.store 113 (.tmp 10) (.tmp 43)) rfl ?_); refine wpList_store1 rfl 113 (.tmp 10) (.tmp 43) rfl w6.heap.size 0 rfl 1 (fun _ => .nilFunc) (turnV false b3) rfl 113 size_func1U (heap_at w6 _ _ rfl) (by omega) rfl ?_; rw [vrow_over_all, setRow_at _ _ _ _ _ rfl]; have T := Go.Lib.hid (heap_at w6 (.cells (vrow 1 fun _ => turnV false b3) 113) _ rfl); have hsz := hB.out.size; replace P := Go.Lib.hid (heap_past w6 (.cells (vrow 1 fun _ => turnV false b3) 113) _ _ (row_lt P.out) P.out); replace Z := Go.Lib.hid (heap_past w6 (.cells (vrow 1 fun _ => turnV false b3) 113) _ _ (row_lt Z.out) Z.out); replace U := Go.Lib.hid (heap_past w6 (.cells (vrow 1 fun _ => turnV false b3) 113) _ _ (row_lt U.out) U.out); replace hB := Go.Lib.hid (hB.out.alloc hsz (.cells (vrow 1 fun _ => turnV false b3) 113)); obtain ⟨b2, hb2⟩ : ∃ z, w6.heap.size = z := ⟨_, rfl⟩; rw [hb2] at T ⊢; generalize World.alloc w6 _ = W7 at P Z U T hB ⊢; clear hb2)
    | ((with_reducible refine wlAt 44 rfl ?_); refine wpList_loadall rfl 34 (.tmp 2) rfl w.heap.size rfl 266 s.at 34 _ Tryd.underlying34 rfl size_sheet P.out ?_)
    | (go_at_call 75; (refine (HM.out b2 b3 _ P.out T.out U.out).mono ?_); rintro o w8 ⟨rfl, hb⟩; replace P := Go.Lib.hid (row_next hb P.out); replace Z := Go.Lib.hid (row_next hb Z.out); replace hB := Go.Lib.hid (below_next hB.out hb); clear hb)
    | ((with_reducible refine wlOp (.store 34 (.tmp 4) (.tmp 48)) rfl ?_); refine wpList_storeall rfl 34 (.tmp 4) (.tmp 48) rfl (w.heap.size + 1) rfl 266 Sh.zero.at r.at rfl 34 size_sheet Z.out (fun i _ => Sh.one _ i) ?_; replace Z := Go.Lib.hid (row_set Z.out (vrow 266 r.at)); replace hB := Go.Lib.hid (Below_setRow hB.out (show w.heap.size ≤ w.heap.size + 1 by omega) (vrow 266 r.at))))
  exact ret_row2 Tryd.results32 (w.heap.size + 1) 266 r.at 34 _ Tryd.underlying34 rfl size_sheet (.int .i64 0) rfl rfl rfl Z.out ⟨rfl, hB.out⟩
set_option maxHeartbeats 8000000 in
theorem implUn_h_lim (s : Sh) (e : ErrE) (w : World) (hE : Errs e w) (hv : okI s = true) (a c : Nat) (ea0 : s.wide = a) (ec0 : s.high = c) (ha : 1 ≤ a ∧ a ≤ 8) (hc : 1 ≤ c ∧ c ≤ 8) (hbig : 8 < 2 * c) : Calls Tryd.prog 32 #[.agg s.row, .bool true] w fun o w' => o = .returned (.tuple #[.agg (Sh.zero).row, .int .i64 3]) ∧ Below w.heap.size w w' := by
  have HC := Go.Lib.hid fun w hE => checkSheet_ok s hv e w hE
  clear hv
  have ea := Go.Lib.hid ea0; have ec := Go.Lib.hid ec0
  clear ea0 ec0
  have zz := zero_sheet
  have zf := zero_foldU
  have zn := zero_fnU
  have hw2 : IntKind.i8.wrap (2 * (a : Int)) = 2 * (a : Int) := IntWalk.i8_in _ (by omega)
  have hw3 : IntKind.i8.wrap (2 * (c : Int)) = 2 * (c : Int) := IntWalk.i8_in _ (by omega)
  have hmf : ∀ (fn : Fn) (first cap : Array Value) (w : World), (Instr.makeFunc fn first cap).run Tryd.prog w = .ok (.func fn first cap) w := fun _ _ _ _ => rfl
  have hg : decide ((8 : Int) < (a : Int)) = false := by simp; omega
  have hg2 : decide ((8 : Int) < 2 * (c : Int)) = true := by simp; omega
  have P : Hid (((w.alloc (.cells (vrow 266 s.at) 34)).alloc (.cells (vrow 266 Sh.zero.at) 34)).heap[w.heap.size]? = some (.cells (vrow 266 s.at) 34)) := (heap_past _ _ _ _ (by simp <;> omega) (heap_at _ _ _ (by simp)))
  have Z : Hid (((w.alloc (.cells (vrow 266 s.at) 34)).alloc (.cells (vrow 266 Sh.zero.at) 34)).heap[w.heap.size + 1]? = some (.cells (vrow 266 Sh.zero.at) 34)) := (heap_at _ _ _ (by simp))
  have hB : Hid (Below w.heap.size w ((w.alloc (.cells (vrow 266 s.at) 34)).alloc (.cells (vrow 266 Sh.zero.at) 34))) := Go.Lib.hid (((Below.refl w.heap.size w).alloc (by simp <;> omega) _).alloc (by simp <;> omega) _)
  have E : Hid (Errs e ((w.alloc (.cells (vrow 266 s.at) 34)).alloc (.cells (vrow 266 Sh.zero.at) 34))) := Go.Lib.hid ((hE.alloc _).alloc _)
  go_enter Tryd.func32, Tryd.ntmps32
  go_wp2_with (first
    | go_skip
    | ((with_reducible refine wlAt 11 rfl ?_); refine wpList_loadall rfl 34 (.tmp 2) rfl w.heap.size rfl 266 s.at 34 _ Tryd.underlying34 rfl size_sheet P.out ?_)
    | (go_at_call 62; (refine (HC.out _ E.out).mono ?_; rintro o w1 ⟨rfl, hb⟩; replace P := Go.Lib.hid (row_next hb P.out); replace Z := Go.Lib.hid (row_next hb Z.out); replace hB := Go.Lib.hid (below_next hB.out hb); replace E := Go.Lib.hid (E.out.next hb); clear hb))
    | fail)
  clear E
  (try simp only [Act.put])
  refine wp_region_noPanic ?_
  refine wp_region_held_drew (S := fun X => Below w.heap.size w X ∧ X.heap[w.heap.size]? = some (.cells (vrow 266 s.at) 34) ∧ X.heap[w.heap.size + 1]? = some (.cells (vrow 266 Sh.zero.at) 34)) (by kernel_rfl) ⟨hB.out.drew, P.out, Z.out⟩ (fun hH => ?_)
  clear hB P Z
  generalize World.drew _ = W at hH ⊢
  refine wpAnyH_take (i := 0) (v := (.pointer (some ⟨w.heap.size, 0, none⟩))) rfl (by kernel_rfl) (by kernel_rfl) (by kernel_rfl) (fun _ _ _ h => h) (.inl ⟨by kernel_rfl, fun w hw => by go_simp⟩) hH ?_
  (try simp only [List.getElem_toArray, List.getElem_cons_succ, List.getElem_cons_zero, Act.put, List.setIfInBounds_toArray, List.set_cons_succ, List.set_cons_zero])
  refine wpAnyH_take (i := 1) (v := (.int .i8 a)) rfl (by kernel_rfl) (by kernel_rfl) (by kernel_rfl) (fun _ _ _ h => h) ((by rw [show (Value.int .i8 (a : Int)) = s.at 0 by rw [Sh.at_0, ea.out]]; exact yields_one (by kernel_rfl) 22 _ rfl w.heap.size 0 rfl 266 s.at 34 _ Tryd.underlying22 rfl (by omega) (fun _ h => h.2.1))) hH ?_
  (try simp only [List.getElem_toArray, List.getElem_cons_succ, List.getElem_cons_zero, Act.put, List.setIfInBounds_toArray, List.set_cons_succ, List.set_cons_zero])
  refine wpAnyH_take (i := 2) (v := (.agg (vrow 3 (foAt a false 0)))) rfl (by kernel_rfl) (by kernel_rfl) (by kernel_rfl) (fun _ _ _ h => h) (yields_builtU (by kernel_rfl) 38 [(0, .tmp 19)] rfl [(0, .int .i8 a)] (by rfl) _ (built_foU a)) hH ?_
  (try simp only [List.getElem_toArray, List.getElem_cons_succ, List.getElem_cons_zero, Act.put, List.setIfInBounds_toArray, List.set_cons_succ, List.set_cons_zero])
  refine wpAnyH_take (i := 3) (v := (.pointer (some ⟨w.heap.size, 0, none⟩))) rfl (by kernel_rfl) (by kernel_rfl) (by kernel_rfl) (fun _ _ _ h => h) (.inl ⟨by kernel_rfl, fun w hw => by go_simp⟩) hH ?_
  (try simp only [List.getElem_toArray, List.getElem_cons_succ, List.getElem_cons_zero, Act.put, List.setIfInBounds_toArray, List.set_cons_succ, List.set_cons_zero])
  refine wpAnyH_take (i := 4) (v := (.int .i8 a)) rfl (by kernel_rfl) (by kernel_rfl) (by kernel_rfl) (fun _ _ _ h => h) ((by rw [show (Value.int .i8 (a : Int)) = s.at 0 by rw [Sh.at_0, ea.out]]; exact yields_one (by kernel_rfl) 22 _ rfl w.heap.size 0 rfl 266 s.at 34 _ Tryd.underlying22 rfl (by omega) (fun _ h => h.2.1))) hH ?_
  (try simp only [List.getElem_toArray, List.getElem_cons_succ, List.getElem_cons_zero, Act.put, List.setIfInBounds_toArray, List.set_cons_succ, List.set_cons_zero])
  refine wpAnyH_take (i := 5) (v := (.int .i8 (2 * (a : Int)))) rfl (by kernel_rfl) (by kernel_rfl) (by kernel_rfl) (fun _ _ _ h => h) (.inl ⟨by kernel_rfl, fun w hw => by go_simp⟩) hH ?_
  (try simp only [List.getElem_toArray, List.getElem_cons_succ, List.getElem_cons_zero, Act.put, List.setIfInBounds_toArray, List.set_cons_succ, List.set_cons_zero])
  refine wpAnyH_take (i := 6) (v := (.pointer (some ⟨w.heap.size, 1, none⟩))) rfl (by kernel_rfl) (by kernel_rfl) (by kernel_rfl) (fun _ _ _ h => h) (.inl ⟨by kernel_rfl, fun w hw => by go_simp⟩) hH ?_
  (try simp only [List.getElem_toArray, List.getElem_cons_succ, List.getElem_cons_zero, Act.put, List.setIfInBounds_toArray, List.set_cons_succ, List.set_cons_zero])
  refine wpAnyH_take (i := 7) (v := (.int .i8 c)) rfl (by kernel_rfl) (by kernel_rfl) (by kernel_rfl) (fun _ _ _ h => h) ((by rw [show (Value.int .i8 (c : Int)) = s.at 1 by rw [Sh.at_1, ec.out]]; exact yields_one (by kernel_rfl) 22 _ rfl w.heap.size 1 rfl 266 s.at 34 _ Tryd.underlying22 rfl (by omega) (fun _ h => h.2.1))) hH ?_
  (try simp only [List.getElem_toArray, List.getElem_cons_succ, List.getElem_cons_zero, Act.put, List.setIfInBounds_toArray, List.set_cons_succ, List.set_cons_zero])
  refine wpAnyH_ready (rs := [8]) (by kernel_rfl) (by simp) (AllReadyH.cons rfl (fun K hK => ?_) AllReadyH.nil)
  rw [if_pos (by rfl)]
  go_simp
  have V := heap_at W (.cells (vrow 3 (foAt 0 false 0)) 38) _ rfl
  have n0 := row_lt hH.2.1; have n1 := row_lt hH.2.2
  replace hH : Below w.heap.size w (W.alloc (.cells (vrow 3 (foAt 0 false 0)) 38)) ∧ (W.alloc (.cells (vrow 3 (foAt 0 false 0)) 38)).heap[w.heap.size]? = some (.cells (vrow 266 s.at) 34) ∧ (W.alloc (.cells (vrow 3 (foAt 0 false 0)) 38)).heap[w.heap.size + 1]? = some (.cells (vrow 266 Sh.zero.at) 34) := ⟨hH.1.alloc hH.1.size _, heap_past _ _ _ _ n0 hH.2.1, heap_past _ _ _ _ n1 hH.2.2⟩
  refine hK.out _ _ hH (fun hH => ?_)
  clear hK K
  (try simp only [List.getElem_toArray, List.getElem_cons_succ, List.getElem_cons_zero, Act.put, List.setIfInBounds_toArray, List.set_cons_succ, List.set_cons_zero])
  obtain ⟨mb, hmb⟩ : ∃ z, W.heap.size = z := ⟨_, rfl⟩
  rw [hmb] at V n0 n1 ⊢
  generalize W.alloc _ = W3 at hH V ⊢
  clear hmb
  refine wpAnyH_ready (rs := [9]) (by kernel_rfl) (by simp) (AllReadyH.cons rfl (fun K hK => ?_) AllReadyH.nil)
  rw [if_pos (by rfl)]
  unfold Oper.wp
  rw [run_storemid 38 (.tmp 7) (.tmp 20) rfl mb 0 rfl 3 3 (foAt 0 false 0) (foAt a false 0) rfl 38 size_fold V (by omega) (fun i _ => foAt_oneU _ _ _ i), vrow_over_all, Oper.upon_skip]
  replace V := row_set V (vrow 3 (foAt a false 0))
  have hH2 : Below w.heap.size w (W3.setRow mb (vrow 3 (foAt a false 0))) ∧ (W3.setRow mb (vrow 3 (foAt a false 0))).heap[w.heap.size]? = some (.cells (vrow 266 s.at) 34) ∧ (W3.setRow mb (vrow 3 (foAt a false 0))).heap[w.heap.size + 1]? = some (.cells (vrow 266 Sh.zero.at) 34) := ⟨Below_setRow hH.1 (by omega) _, row_set' (g := mb) (by omega) hH.2.1 _, row_set' (g := mb) (by omega) hH.2.2 _⟩
  refine hK.out _ _ hH2 (fun hH => ?_)
  clear hK K hH2
  (try simp only [List.getElem_toArray, List.getElem_cons_succ, List.getElem_cons_zero, Act.put, List.setIfInBounds_toArray, List.set_cons_succ, List.set_cons_zero])
  obtain ⟨W3x, hWx⟩ : ∃ z, World.setRow W3 mb (vrow 3 (foAt a false 0)) = z := ⟨_, rfl⟩
  rw [hWx] at hH V ⊢
  clear hWx
  refine wpAnyH_take (i := 10) (v := (.int .i8 (2 * (a : Int)))) rfl (by kernel_rfl) (by kernel_rfl) (by kernel_rfl) (fun _ _ _ h => h) (.inl ⟨by kernel_rfl, fun w hw => by go_simp⟩) hH ?_
  (try simp only [List.getElem_toArray, List.getElem_cons_succ, List.getElem_cons_zero, Act.put, List.setIfInBounds_toArray, List.set_cons_succ, List.set_cons_zero])
  refine wpAnyH_take (i := 11) (v := (.int .i8 (c : Int))) rfl (by kernel_rfl) (by kernel_rfl) (by kernel_rfl) (fun _ _ _ h => h) (.inl ⟨by kernel_rfl, fun w hw => by go_simp⟩) hH ?_
  (try simp only [List.getElem_toArray, List.getElem_cons_succ, List.getElem_cons_zero, Act.put, List.setIfInBounds_toArray, List.set_cons_succ, List.set_cons_zero])
  refine wpAnyH_done (by kernel_rfl) ?_ _
  refine NoPanic.normal ?_
  (try simp only [List.getElem_toArray, List.getElem_cons_succ, List.getElem_cons_zero, Act.put, List.setIfInBounds_toArray, List.set_cons_succ, List.set_cons_zero])
  obtain ⟨hB, P, Z⟩ := hH
  replace hB := Go.Lib.hid hB; replace P := Go.Lib.hid P; replace Z := Go.Lib.hid Z; replace V := Go.Lib.hid V
  go_wp2_with (first | go_skip | fail)
  (try simp only [Act.put])
  refine wp_region_noPanic ?_
  refine wp_region_held_drew (S := fun X => Below w.heap.size w X ∧ X.heap[w.heap.size]? = some (.cells (vrow 266 s.at) 34) ∧ X.heap[w.heap.size + 1]? = some (.cells (vrow 266 Sh.zero.at) 34)) (by kernel_rfl) ⟨hB.out.drew, P.out, Z.out⟩ (fun hH => ?_)
  replace V := drwT V.out
  clear hB P Z
  generalize World.drew _ = W at hH V ⊢
  refine wpAnyH_take (i := 0) (v := (.pointer (some ⟨w.heap.size, 1, none⟩))) rfl (by kernel_rfl) (by kernel_rfl) (by kernel_rfl) (fun _ _ _ h => h) (.inl ⟨by kernel_rfl, fun w hw => by go_simp⟩) hH ?_
  (try simp only [List.getElem_toArray, List.getElem_cons_succ, List.getElem_cons_zero, Act.put, List.setIfInBounds_toArray, List.set_cons_succ, List.set_cons_zero])
  refine wpAnyH_take (i := 1) (v := (.int .i8 c)) rfl (by kernel_rfl) (by kernel_rfl) (by kernel_rfl) (fun _ _ _ h => h) ((by rw [show (Value.int .i8 (c : Int)) = s.at 1 by rw [Sh.at_1, ec.out]]; exact yields_one (by kernel_rfl) 22 _ rfl w.heap.size 1 rfl 266 s.at 34 _ Tryd.underlying22 rfl (by omega) (fun _ h => h.2.1))) hH ?_
  (try simp only [List.getElem_toArray, List.getElem_cons_succ, List.getElem_cons_zero, Act.put, List.setIfInBounds_toArray, List.set_cons_succ, List.set_cons_zero])
  refine wpAnyH_take (i := 2) (v := (.agg (vrow 3 (foAt c true 0)))) rfl (by kernel_rfl) (by kernel_rfl) (by kernel_rfl) (fun _ _ _ h => h) (yields_builtU (by kernel_rfl) 38 [(0, .tmp 28), (1, .const (.bool true))] rfl [(0, .int .i8 c), (1, .bool true)] (by rfl) _ (built_foUT c)) hH ?_
  (try simp only [List.getElem_toArray, List.getElem_cons_succ, List.getElem_cons_zero, Act.put, List.setIfInBounds_toArray, List.set_cons_succ, List.set_cons_zero])
  refine wpAnyH_take (i := 3) (v := (.pointer (some ⟨w.heap.size, 0, none⟩))) rfl (by kernel_rfl) (by kernel_rfl) (by kernel_rfl) (fun _ _ _ h => h) (.inl ⟨by kernel_rfl, fun w hw => by go_simp⟩) hH ?_
  (try simp only [List.getElem_toArray, List.getElem_cons_succ, List.getElem_cons_zero, Act.put, List.setIfInBounds_toArray, List.set_cons_succ, List.set_cons_zero])
  refine wpAnyH_take (i := 4) (v := (.int .i8 a)) rfl (by kernel_rfl) (by kernel_rfl) (by kernel_rfl) (fun _ _ _ h => h) ((by rw [show (Value.int .i8 (a : Int)) = s.at 0 by rw [Sh.at_0, ea.out]]; exact yields_one (by kernel_rfl) 22 _ rfl w.heap.size 0 rfl 266 s.at 34 _ Tryd.underlying22 rfl (by omega) (fun _ h => h.2.1))) hH ?_
  (try simp only [List.getElem_toArray, List.getElem_cons_succ, List.getElem_cons_zero, Act.put, List.setIfInBounds_toArray, List.set_cons_succ, List.set_cons_zero])
  refine wpAnyH_take (i := 5) (v := (.pointer (some ⟨w.heap.size, 1, none⟩))) rfl (by kernel_rfl) (by kernel_rfl) (by kernel_rfl) (fun _ _ _ h => h) (.inl ⟨by kernel_rfl, fun w hw => by go_simp⟩) hH ?_
  (try simp only [List.getElem_toArray, List.getElem_cons_succ, List.getElem_cons_zero, Act.put, List.setIfInBounds_toArray, List.set_cons_succ, List.set_cons_zero])
  refine wpAnyH_take (i := 6) (v := (.int .i8 c)) rfl (by kernel_rfl) (by kernel_rfl) (by kernel_rfl) (fun _ _ _ h => h) ((by rw [show (Value.int .i8 (c : Int)) = s.at 1 by rw [Sh.at_1, ec.out]]; exact yields_one (by kernel_rfl) 22 _ rfl w.heap.size 1 rfl 266 s.at 34 _ Tryd.underlying22 rfl (by omega) (fun _ h => h.2.1))) hH ?_
  (try simp only [List.getElem_toArray, List.getElem_cons_succ, List.getElem_cons_zero, Act.put, List.setIfInBounds_toArray, List.set_cons_succ, List.set_cons_zero])
  refine wpAnyH_take (i := 7) (v := (.int .i8 (2 * (c : Int)))) rfl (by kernel_rfl) (by kernel_rfl) (by kernel_rfl) (fun _ _ _ h => h) (.inl ⟨by kernel_rfl, fun w hw => by go_simp⟩) hH ?_
  (try simp only [List.getElem_toArray, List.getElem_cons_succ, List.getElem_cons_zero, Act.put, List.setIfInBounds_toArray, List.set_cons_succ, List.set_cons_zero])
  refine wpAnyH_ready (rs := [8]) (by kernel_rfl) (by simp) (AllReadyH.cons rfl (fun K hK => ?_) AllReadyH.nil)
  rw [if_pos (by rfl)]
  unfold Oper.wp
  rw [run_storemid 38 (.tmp 7) (.tmp 29) rfl mb 0 rfl 3 3 (foAt a false 0) (foAt c true 0) rfl 38 size_fold V (by omega) (fun i _ => foAt_oneU _ _ _ i), vrow_over_all, Oper.upon_skip]
  replace V := row_set V (vrow 3 (foAt c true 0))
  have hH2 : Below w.heap.size w (W.setRow mb (vrow 3 (foAt c true 0))) ∧ (W.setRow mb (vrow 3 (foAt c true 0))).heap[w.heap.size]? = some (.cells (vrow 266 s.at) 34) ∧ (W.setRow mb (vrow 3 (foAt c true 0))).heap[w.heap.size + 1]? = some (.cells (vrow 266 Sh.zero.at) 34) := ⟨Below_setRow hH.1 (by omega) _, row_set' (g := mb) (by omega) hH.2.1 _, row_set' (g := mb) (by omega) hH.2.2 _⟩
  refine hK.out _ _ hH2 (fun hH => ?_)
  clear hK K hH2
  (try simp only [List.getElem_toArray, List.getElem_cons_succ, List.getElem_cons_zero, Act.put, List.setIfInBounds_toArray, List.set_cons_succ, List.set_cons_zero])
  obtain ⟨Wx, hWx⟩ : ∃ z, World.setRow W mb (vrow 3 (foAt c true 0)) = z := ⟨_, rfl⟩
  rw [hWx] at hH V ⊢
  clear hWx
  refine wpAnyH_take (i := 9) (v := (.int .i8 (a : Int))) rfl (by kernel_rfl) (by kernel_rfl) (by kernel_rfl) (fun _ _ _ h => h) (.inl ⟨by kernel_rfl, fun w hw => by go_simp⟩) hH ?_
  (try simp only [List.getElem_toArray, List.getElem_cons_succ, List.getElem_cons_zero, Act.put, List.setIfInBounds_toArray, List.set_cons_succ, List.set_cons_zero])
  refine wpAnyH_take (i := 10) (v := (.int .i8 (2 * (c : Int)))) rfl (by kernel_rfl) (by kernel_rfl) (by kernel_rfl) (fun _ _ _ h => h) (.inl ⟨by kernel_rfl, fun w hw => by go_simp⟩) hH ?_
  (try simp only [List.getElem_toArray, List.getElem_cons_succ, List.getElem_cons_zero, Act.put, List.setIfInBounds_toArray, List.set_cons_succ, List.set_cons_zero])
  refine wpAnyH_done (by kernel_rfl) ?_ _
  refine NoPanic.normal ?_
  (try simp only [List.getElem_toArray, List.getElem_cons_succ, List.getElem_cons_zero, Act.put, List.setIfInBounds_toArray, List.set_cons_succ, List.set_cons_zero])
  obtain ⟨hB, P, Z⟩ := hH
  replace hB := Go.Lib.hid hB; replace P := Go.Lib.hid P; replace Z := Go.Lib.hid Z; replace V := Go.Lib.hid V
  go_wp2_with (first
    | go_skip
    | ((with_reducible refine wlAt 41 rfl ?_); refine wpList_built rfl 34 [] rfl [] (by rfl) _ built_zero ?_)
    | ((with_reducible refine wlOp (.store 34 (.tmp 4) (.tmp 41)) rfl ?_); refine wpList_storeall rfl 34 (.tmp 4) (.tmp 41) rfl (w.heap.size + 1) rfl 266 Sh.zero.at Sh.zero.at rfl 34 size_sheet Z.out (fun i _ => Sh.one _ i) ?_; replace Z := Go.Lib.hid (row_set Z.out (vrow 266 Sh.zero.at)); replace hB := Go.Lib.hid (Below_setRow hB.out (show w.heap.size ≤ w.heap.size + 1 by omega) (vrow 266 Sh.zero.at))))
  exact ret_row2 Tryd.results32 (w.heap.size + 1) 266 Sh.zero.at 34 _ Tryd.underlying34 rfl size_sheet (.int .i64 3) rfl rfl rfl Z.out ⟨rfl, hB.out⟩
set_option maxHeartbeats 8000000 in
theorem implUn_h_ok (s : Sh) (e : ErrE) (w : World) (hE : Errs e w) (hv : okI s = true) (a c : Nat) (ea0 : s.wide = a) (ec0 : s.high = c) (ha : 1 ≤ a ∧ a ≤ 8) (hc : 1 ≤ c ∧ c ≤ 8) (hbig : 2 * c ≤ 8) : Calls Tryd.prog 32 #[.agg s.row, .bool true] w fun o w' => o = .returned (.tuple #[.agg ((arrI s (fun x y => unX true a x) (fun x y => unY true c y) (plainSh (((a : Nat) : Int)) (((2 * c : Nat) : Int))) (pairsL (a) (2 * c)))).row, .int .i64 0]) ∧ Below w.heap.size w w' := by
  have HC := Go.Lib.hid fun w hE => checkSheet_ok s hv e w hE
  clear hv
  have ea := Go.Lib.hid ea0; have ec := Go.Lib.hid ec0
  have HT := fun w => turn_any (c : Int) true 0 w (by omega)
  simp only [fo_vrow] at HT
  replace HT := Go.Lib.hid HT
  have HM := Go.Lib.hid fun (b2 b3 : Nat) (W : World) (h1 : W.heap[w.heap.size]? = some (.cells (vrow 266 s.at) 34)) (h2 : W.heap[b2]? = some (.cells (vrow 1 fun _ => turnV true b3) 113)) (h3 : W.heap[b3]? = some (.cells (vrow 1 fun _ => .int .i8 (2 * (c : Int) - 1)) 22)) => arrUnf s w.heap.size b2 (a) (2 * c) (fun x y => unX true a x) (fun x y => unY true c y) (by omega) (by omega) (fun x y hx hy => ⟨unX_lt (d := true) (by simp; omega) (by simpa using hx), unY_lt (d := true) (by simp; omega) (by simpa using hy)⟩) W h1 (fun x y W' hx hy hW hb => un1_any s w.heap.size b2 b3 a c true _ x y W' hW (row_next hb h2) (row_next hb h3) ea0 ec0 ha hc rfl (by simpa using hx) (by simpa using hy))
  clear ea0 ec0
  generalize hr : (arrI s (fun x y => unX true a x) (fun x y => unY true c y) (plainSh (↑(a)) (↑(2 * c))) (pairsL (a) (2 * c))) = r at *
  clear hr
  have zz := zero_sheet
  have zf := zero_foldU
  have zn := zero_fnU
  have hw2 : IntKind.i8.wrap (2 * (a : Int)) = 2 * (a : Int) := IntWalk.i8_in _ (by omega)
  have hw3 : IntKind.i8.wrap (2 * (c : Int)) = 2 * (c : Int) := IntWalk.i8_in _ (by omega)
  have hmf : ∀ (fn : Fn) (first cap : Array Value) (w : World), (Instr.makeFunc fn first cap).run Tryd.prog w = .ok (.func fn first cap) w := fun _ _ _ _ => rfl
  have hg : decide ((8 : Int) < (a : Int)) = false := by simp; omega
  have hg2 : decide ((8 : Int) < 2 * (c : Int)) = false := by simp; omega
  have P : Hid (((w.alloc (.cells (vrow 266 s.at) 34)).alloc (.cells (vrow 266 Sh.zero.at) 34)).heap[w.heap.size]? = some (.cells (vrow 266 s.at) 34)) := (heap_past _ _ _ _ (by simp <;> omega) (heap_at _ _ _ (by simp)))
  have Z : Hid (((w.alloc (.cells (vrow 266 s.at) 34)).alloc (.cells (vrow 266 Sh.zero.at) 34)).heap[w.heap.size + 1]? = some (.cells (vrow 266 Sh.zero.at) 34)) := (heap_at _ _ _ (by simp))
  have hB : Hid (Below w.heap.size w ((w.alloc (.cells (vrow 266 s.at) 34)).alloc (.cells (vrow 266 Sh.zero.at) 34))) := Go.Lib.hid (((Below.refl w.heap.size w).alloc (by simp <;> omega) _).alloc (by simp <;> omega) _)
  have E : Hid (Errs e ((w.alloc (.cells (vrow 266 s.at) 34)).alloc (.cells (vrow 266 Sh.zero.at) 34))) := Go.Lib.hid ((hE.alloc _).alloc _)
  go_enter Tryd.func32, Tryd.ntmps32
  go_wp2_with (first
    | go_skip
    | ((with_reducible refine wlAt 11 rfl ?_); refine wpList_loadall rfl 34 (.tmp 2) rfl w.heap.size rfl 266 s.at 34 _ Tryd.underlying34 rfl size_sheet P.out ?_)
    | (go_at_call 62; (refine (HC.out _ E.out).mono ?_; rintro o w1 ⟨rfl, hb⟩; replace P := Go.Lib.hid (row_next hb P.out); replace Z := Go.Lib.hid (row_next hb Z.out); replace hB := Go.Lib.hid (below_next hB.out hb); replace E := Go.Lib.hid (E.out.next hb); clear hb))
    | fail)
  clear E
  (try simp only [Act.put])
  refine wp_region_noPanic ?_
  refine wp_region_held_drew (S := fun X => Below w.heap.size w X ∧ X.heap[w.heap.size]? = some (.cells (vrow 266 s.at) 34) ∧ X.heap[w.heap.size + 1]? = some (.cells (vrow 266 Sh.zero.at) 34)) (by kernel_rfl) ⟨hB.out.drew, P.out, Z.out⟩ (fun hH => ?_)
  clear hB P Z
  generalize World.drew _ = W at hH ⊢
  refine wpAnyH_take (i := 0) (v := (.pointer (some ⟨w.heap.size, 0, none⟩))) rfl (by kernel_rfl) (by kernel_rfl) (by kernel_rfl) (fun _ _ _ h => h) (.inl ⟨by kernel_rfl, fun w hw => by go_simp⟩) hH ?_
  (try simp only [List.getElem_toArray, List.getElem_cons_succ, List.getElem_cons_zero, Act.put, List.setIfInBounds_toArray, List.set_cons_succ, List.set_cons_zero])
  refine wpAnyH_take (i := 1) (v := (.int .i8 a)) rfl (by kernel_rfl) (by kernel_rfl) (by kernel_rfl) (fun _ _ _ h => h) ((by rw [show (Value.int .i8 (a : Int)) = s.at 0 by rw [Sh.at_0, ea.out]]; exact yields_one (by kernel_rfl) 22 _ rfl w.heap.size 0 rfl 266 s.at 34 _ Tryd.underlying22 rfl (by omega) (fun _ h => h.2.1))) hH ?_
  (try simp only [List.getElem_toArray, List.getElem_cons_succ, List.getElem_cons_zero, Act.put, List.setIfInBounds_toArray, List.set_cons_succ, List.set_cons_zero])
  refine wpAnyH_take (i := 2) (v := (.agg (vrow 3 (foAt a false 0)))) rfl (by kernel_rfl) (by kernel_rfl) (by kernel_rfl) (fun _ _ _ h => h) (yields_builtU (by kernel_rfl) 38 [(0, .tmp 19)] rfl [(0, .int .i8 a)] (by rfl) _ (built_foU a)) hH ?_
  (try simp only [List.getElem_toArray, List.getElem_cons_succ, List.getElem_cons_zero, Act.put, List.setIfInBounds_toArray, List.set_cons_succ, List.set_cons_zero])
  refine wpAnyH_take (i := 3) (v := (.pointer (some ⟨w.heap.size, 0, none⟩))) rfl (by kernel_rfl) (by kernel_rfl) (by kernel_rfl) (fun _ _ _ h => h) (.inl ⟨by kernel_rfl, fun w hw => by go_simp⟩) hH ?_
  (try simp only [List.getElem_toArray, List.getElem_cons_succ, List.getElem_cons_zero, Act.put, List.setIfInBounds_toArray, List.set_cons_succ, List.set_cons_zero])
  refine wpAnyH_take (i := 4) (v := (.int .i8 a)) rfl (by kernel_rfl) (by kernel_rfl) (by kernel_rfl) (fun _ _ _ h => h) ((by rw [show (Value.int .i8 (a : Int)) = s.at 0 by rw [Sh.at_0, ea.out]]; exact yields_one (by kernel_rfl) 22 _ rfl w.heap.size 0 rfl 266 s.at 34 _ Tryd.underlying22 rfl (by omega) (fun _ h => h.2.1))) hH ?_
  (try simp only [List.getElem_toArray, List.getElem_cons_succ, List.getElem_cons_zero, Act.put, List.setIfInBounds_toArray, List.set_cons_succ, List.set_cons_zero])
  refine wpAnyH_take (i := 5) (v := (.int .i8 (2 * (a : Int)))) rfl (by kernel_rfl) (by kernel_rfl) (by kernel_rfl) (fun _ _ _ h => h) (.inl ⟨by kernel_rfl, fun w hw => by go_simp⟩) hH ?_
  (try simp only [List.getElem_toArray, List.getElem_cons_succ, List.getElem_cons_zero, Act.put, List.setIfInBounds_toArray, List.set_cons_succ, List.set_cons_zero])
  refine wpAnyH_take (i := 6) (v := (.pointer (some ⟨w.heap.size, 1, none⟩))) rfl (by kernel_rfl) (by kernel_rfl) (by kernel_rfl) (fun _ _ _ h => h) (.inl ⟨by kernel_rfl, fun w hw => by go_simp⟩) hH ?_
  (try simp only [List.getElem_toArray, List.getElem_cons_succ, List.getElem_cons_zero, Act.put, List.setIfInBounds_toArray, List.set_cons_succ, List.set_cons_zero])
  refine wpAnyH_take (i := 7) (v := (.int .i8 c)) rfl (by kernel_rfl) (by kernel_rfl) (by kernel_rfl) (fun _ _ _ h => h) ((by rw [show (Value.int .i8 (c : Int)) = s.at 1 by rw [Sh.at_1, ec.out]]; exact yields_one (by kernel_rfl) 22 _ rfl w.heap.size 1 rfl 266 s.at 34 _ Tryd.underlying22 rfl (by omega) (fun _ h => h.2.1))) hH ?_
  (try simp only [List.getElem_toArray, List.getElem_cons_succ, List.getElem_cons_zero, Act.put, List.setIfInBounds_toArray, List.set_cons_succ, List.set_cons_zero])
  refine wpAnyH_ready (rs := [8]) (by kernel_rfl) (by simp) (AllReadyH.cons rfl (fun K hK => ?_) AllReadyH.nil)
  rw [if_pos (by rfl)]
  go_simp
  have V := heap_at W (.cells (vrow 3 (foAt 0 false 0)) 38) _ rfl
  have n0 := row_lt hH.2.1; have n1 := row_lt hH.2.2
  replace hH : Below w.heap.size w (W.alloc (.cells (vrow 3 (foAt 0 false 0)) 38)) ∧ (W.alloc (.cells (vrow 3 (foAt 0 false 0)) 38)).heap[w.heap.size]? = some (.cells (vrow 266 s.at) 34) ∧ (W.alloc (.cells (vrow 3 (foAt 0 false 0)) 38)).heap[w.heap.size + 1]? = some (.cells (vrow 266 Sh.zero.at) 34) := ⟨hH.1.alloc hH.1.size _, heap_past _ _ _ _ n0 hH.2.1, heap_past _ _ _ _ n1 hH.2.2⟩
  refine hK.out _ _ hH (fun hH => ?_)
  clear hK K
  (try simp only [List.getElem_toArray, List.getElem_cons_succ, List.getElem_cons_zero, Act.put, List.setIfInBounds_toArray, List.set_cons_succ, List.set_cons_zero])
  obtain ⟨mb, hmb⟩ : ∃ z, W.heap.size = z := ⟨_, rfl⟩
  rw [hmb] at V n0 n1 ⊢
  generalize W.alloc _ = W3 at hH V ⊢
  clear hmb
  refine wpAnyH_ready (rs := [9]) (by kernel_rfl) (by simp) (AllReadyH.cons rfl (fun K hK => ?_) AllReadyH.nil)
  rw [if_pos (by rfl)]
  unfold Oper.wp
  rw [run_storemid 38 (.tmp 7) (.tmp 20) rfl mb 0 rfl 3 3 (foAt 0 false 0) (foAt a false 0) rfl 38 size_fold V (by omega) (fun i _ => foAt_oneU _ _ _ i), vrow_over_all, Oper.upon_skip]
  replace V := row_set V (vrow 3 (foAt a false 0))
  have hH2 : Below w.heap.size w (W3.setRow mb (vrow 3 (foAt a false 0))) ∧ (W3.setRow mb (vrow 3 (foAt a false 0))).heap[w.heap.size]? = some (.cells (vrow 266 s.at) 34) ∧ (W3.setRow mb (vrow 3 (foAt a false 0))).heap[w.heap.size + 1]? = some (.cells (vrow 266 Sh.zero.at) 34) := ⟨Below_setRow hH.1 (by omega) _, row_set' (g := mb) (by omega) hH.2.1 _, row_set' (g := mb) (by omega) hH.2.2 _⟩
  refine hK.out _ _ hH2 (fun hH => ?_)
  clear hK K hH2
  (try simp only [List.getElem_toArray, List.getElem_cons_succ, List.getElem_cons_zero, Act.put, List.setIfInBounds_toArray, List.set_cons_succ, List.set_cons_zero])
  obtain ⟨W3x, hWx⟩ : ∃ z, World.setRow W3 mb (vrow 3 (foAt a false 0)) = z := ⟨_, rfl⟩
  rw [hWx] at hH V ⊢
  clear hWx
  refine wpAnyH_take (i := 10) (v := (.int .i8 (2 * (a : Int)))) rfl (by kernel_rfl) (by kernel_rfl) (by kernel_rfl) (fun _ _ _ h => h) (.inl ⟨by kernel_rfl, fun w hw => by go_simp⟩) hH ?_
  (try simp only [List.getElem_toArray, List.getElem_cons_succ, List.getElem_cons_zero, Act.put, List.setIfInBounds_toArray, List.set_cons_succ, List.set_cons_zero])
  refine wpAnyH_take (i := 11) (v := (.int .i8 (c : Int))) rfl (by kernel_rfl) (by kernel_rfl) (by kernel_rfl) (fun _ _ _ h => h) (.inl ⟨by kernel_rfl, fun w hw => by go_simp⟩) hH ?_
  (try simp only [List.getElem_toArray, List.getElem_cons_succ, List.getElem_cons_zero, Act.put, List.setIfInBounds_toArray, List.set_cons_succ, List.set_cons_zero])
  refine wpAnyH_done (by kernel_rfl) ?_ _
  refine NoPanic.normal ?_
  (try simp only [List.getElem_toArray, List.getElem_cons_succ, List.getElem_cons_zero, Act.put, List.setIfInBounds_toArray, List.set_cons_succ, List.set_cons_zero])
  obtain ⟨hB, P, Z⟩ := hH
  replace hB := Go.Lib.hid hB; replace P := Go.Lib.hid P; replace Z := Go.Lib.hid Z; replace V := Go.Lib.hid V
  go_wp2_with (first | go_skip | fail)
  (try simp only [Act.put])
  refine wp_region_noPanic ?_
  refine wp_region_held_drew (S := fun X => Below w.heap.size w X ∧ X.heap[w.heap.size]? = some (.cells (vrow 266 s.at) 34) ∧ X.heap[w.heap.size + 1]? = some (.cells (vrow 266 Sh.zero.at) 34)) (by kernel_rfl) ⟨hB.out.drew, P.out, Z.out⟩ (fun hH => ?_)
  replace V := drwT V.out
  clear hB P Z
  generalize World.drew _ = W at hH V ⊢
  refine wpAnyH_take (i := 0) (v := (.pointer (some ⟨w.heap.size, 1, none⟩))) rfl (by kernel_rfl) (by kernel_rfl) (by kernel_rfl) (fun _ _ _ h => h) (.inl ⟨by kernel_rfl, fun w hw => by go_simp⟩) hH ?_
  (try simp only [List.getElem_toArray, List.getElem_cons_succ, List.getElem_cons_zero, Act.put, List.setIfInBounds_toArray, List.set_cons_succ, List.set_cons_zero])
  refine wpAnyH_take (i := 1) (v := (.int .i8 c)) rfl (by kernel_rfl) (by kernel_rfl) (by kernel_rfl) (fun _ _ _ h => h) ((by rw [show (Value.int .i8 (c : Int)) = s.at 1 by rw [Sh.at_1, ec.out]]; exact yields_one (by kernel_rfl) 22 _ rfl w.heap.size 1 rfl 266 s.at 34 _ Tryd.underlying22 rfl (by omega) (fun _ h => h.2.1))) hH ?_
  (try simp only [List.getElem_toArray, List.getElem_cons_succ, List.getElem_cons_zero, Act.put, List.setIfInBounds_toArray, List.set_cons_succ, List.set_cons_zero])
  refine wpAnyH_take (i := 2) (v := (.agg (vrow 3 (foAt c true 0)))) rfl (by kernel_rfl) (by kernel_rfl) (by kernel_rfl) (fun _ _ _ h => h) (yields_builtU (by kernel_rfl) 38 [(0, .tmp 28), (1, .const (.bool true))] rfl [(0, .int .i8 c), (1, .bool true)] (by rfl) _ (built_foUT c)) hH ?_
  (try simp only [List.getElem_toArray, List.getElem_cons_succ, List.getElem_cons_zero, Act.put, List.setIfInBounds_toArray, List.set_cons_succ, List.set_cons_zero])
  refine wpAnyH_take (i := 3) (v := (.pointer (some ⟨w.heap.size, 0, none⟩))) rfl (by kernel_rfl) (by kernel_rfl) (by kernel_rfl) (fun _ _ _ h => h) (.inl ⟨by kernel_rfl, fun w hw => by go_simp⟩) hH ?_
  (try simp only [List.getElem_toArray, List.getElem_cons_succ, List.getElem_cons_zero, Act.put, List.setIfInBounds_toArray, List.set_cons_succ, List.set_cons_zero])
  refine wpAnyH_take (i := 4) (v := (.int .i8 a)) rfl (by kernel_rfl) (by kernel_rfl) (by kernel_rfl) (fun _ _ _ h => h) ((by rw [show (Value.int .i8 (a : Int)) = s.at 0 by rw [Sh.at_0, ea.out]]; exact yields_one (by kernel_rfl) 22 _ rfl w.heap.size 0 rfl 266 s.at 34 _ Tryd.underlying22 rfl (by omega) (fun _ h => h.2.1))) hH ?_
  (try simp only [List.getElem_toArray, List.getElem_cons_succ, List.getElem_cons_zero, Act.put, List.setIfInBounds_toArray, List.set_cons_succ, List.set_cons_zero])
  refine wpAnyH_take (i := 5) (v := (.pointer (some ⟨w.heap.size, 1, none⟩))) rfl (by kernel_rfl) (by kernel_rfl) (by kernel_rfl) (fun _ _ _ h => h) (.inl ⟨by kernel_rfl, fun w hw => by go_simp⟩) hH ?_
  (try simp only [List.getElem_toArray, List.getElem_cons_succ, List.getElem_cons_zero, Act.put, List.setIfInBounds_toArray, List.set_cons_succ, List.set_cons_zero])
  refine wpAnyH_take (i := 6) (v := (.int .i8 c)) rfl (by kernel_rfl) (by kernel_rfl) (by kernel_rfl) (fun _ _ _ h => h) ((by rw [show (Value.int .i8 (c : Int)) = s.at 1 by rw [Sh.at_1, ec.out]]; exact yields_one (by kernel_rfl) 22 _ rfl w.heap.size 1 rfl 266 s.at 34 _ Tryd.underlying22 rfl (by omega) (fun _ h => h.2.1))) hH ?_
  (try simp only [List.getElem_toArray, List.getElem_cons_succ, List.getElem_cons_zero, Act.put, List.setIfInBounds_toArray, List.set_cons_succ, List.set_cons_zero])
  refine wpAnyH_take (i := 7) (v := (.int .i8 (2 * (c : Int)))) rfl (by kernel_rfl) (by kernel_rfl) (by kernel_rfl) (fun _ _ _ h => h) (.inl ⟨by kernel_rfl, fun w hw => by go_simp⟩) hH ?_
  (try simp only [List.getElem_toArray, List.getElem_cons_succ, List.getElem_cons_zero, Act.put, List.setIfInBounds_toArray, List.set_cons_succ, List.set_cons_zero])
  refine wpAnyH_ready (rs := [8]) (by kernel_rfl) (by simp) (AllReadyH.cons rfl (fun K hK => ?_) AllReadyH.nil)
  rw [if_pos (by rfl)]
  unfold Oper.wp
  rw [run_storemid 38 (.tmp 7) (.tmp 29) rfl mb 0 rfl 3 3 (foAt a false 0) (foAt c true 0) rfl 38 size_fold V (by omega) (fun i _ => foAt_oneU _ _ _ i), vrow_over_all, Oper.upon_skip]
  replace V := row_set V (vrow 3 (foAt c true 0))
  have hH2 : Below w.heap.size w (W.setRow mb (vrow 3 (foAt c true 0))) ∧ (W.setRow mb (vrow 3 (foAt c true 0))).heap[w.heap.size]? = some (.cells (vrow 266 s.at) 34) ∧ (W.setRow mb (vrow 3 (foAt c true 0))).heap[w.heap.size + 1]? = some (.cells (vrow 266 Sh.zero.at) 34) := ⟨Below_setRow hH.1 (by omega) _, row_set' (g := mb) (by omega) hH.2.1 _, row_set' (g := mb) (by omega) hH.2.2 _⟩
  refine hK.out _ _ hH2 (fun hH => ?_)
  clear hK K hH2
  (try simp only [List.getElem_toArray, List.getElem_cons_succ, List.getElem_cons_zero, Act.put, List.setIfInBounds_toArray, List.set_cons_succ, List.set_cons_zero])
  obtain ⟨Wx, hWx⟩ : ∃ z, World.setRow W mb (vrow 3 (foAt c true 0)) = z := ⟨_, rfl⟩
  rw [hWx] at hH V ⊢
  clear hWx
  refine wpAnyH_take (i := 9) (v := (.int .i8 (a : Int))) rfl (by kernel_rfl) (by kernel_rfl) (by kernel_rfl) (fun _ _ _ h => h) (.inl ⟨by kernel_rfl, fun w hw => by go_simp⟩) hH ?_
  (try simp only [List.getElem_toArray, List.getElem_cons_succ, List.getElem_cons_zero, Act.put, List.setIfInBounds_toArray, List.set_cons_succ, List.set_cons_zero])
  refine wpAnyH_take (i := 10) (v := (.int .i8 (2 * (c : Int)))) rfl (by kernel_rfl) (by kernel_rfl) (by kernel_rfl) (fun _ _ _ h => h) (.inl ⟨by kernel_rfl, fun w hw => by go_simp⟩) hH ?_
  (try simp only [List.getElem_toArray, List.getElem_cons_succ, List.getElem_cons_zero, Act.put, List.setIfInBounds_toArray, List.set_cons_succ, List.set_cons_zero])
  refine wpAnyH_done (by kernel_rfl) ?_ _
  refine NoPanic.normal ?_
  (try simp only [List.getElem_toArray, List.getElem_cons_succ, List.getElem_cons_zero, Act.put, List.setIfInBounds_toArray, List.set_cons_succ, List.set_cons_zero])
  obtain ⟨hB, P, Z⟩ := hH
  replace hB := Go.Lib.hid hB; replace P := Go.Lib.hid P; replace Z := Go.Lib.hid Z; replace V := Go.Lib.hid V
  go_wp2_with (first
    | go_skip
    | ((with_reducible refine wlAt 42 rfl ?_); refine wpList_loadall rfl 38 (.tmp 7) rfl mb rfl 3 (foAt c true 0) 38 _ Tryd.underlying38 rfl size_fold V.out ?_)
    | (go_at_call 74; (refine (HT.out _).mono ?_); rintro o w6 ⟨rfl, hU, hb⟩; obtain ⟨b3, hb3⟩ : ∃ z, Wx.heap.size + 1 = z := ⟨_, rfl⟩; simp only [hb3] at hU ⊢; clear hb3; have U := Go.Lib.hid hU; clear hU; replace P := Go.Lib.hid (row_next hb P.out); replace Z := Go.Lib.hid (row_next hb Z.out); replace hB := Go.Lib.hid (below_next hB.out hb); clear hb V)
    | ((with_reducible refine wlOp (.store 113 (.tmp 10) (.tmp 43)) rfl ?_); refine wpList_store1 rfl 113 (.tmp 10) (.tmp 43) rfl w6.heap.size 0 rfl 1 (fun _ => .nilFunc) (turnV true b3) rfl 113 size_func1U (heap_at w6 _ _ rfl) (by omega) rfl ?_; rw [vrow_over_all, setRow_at _ _ _ _ _ rfl]; have T := Go.Lib.hid (heap_at w6 (.cells (vrow 1 fun _ => turnV true b3) 113) _ rfl); have hsz := hB.out.size; replace P := Go.Lib.hid (heap_past w6 (.cells (vrow 1 fun _ => turnV true b3) 113) _ _ (row_lt P.out) P.out); replace Z := Go.Lib.hid (heap_past w6 (.cells (vrow 1 fun _ => turnV true b3) 113) _ _ (row_lt Z.out) Z.out); replace U := Go.Lib.hid (heap_past w6 (.cells (vrow 1 fun _ => turnV true b3) 113) _ _ (row_lt U.out) U.out); replace hB := Go.Lib.hid (hB.out.alloc hsz (.cells (vrow 1 fun _ => turnV true b3) 113)); obtain ⟨b2, hb2⟩ : ∃ z, w6.heap.size = z := ⟨_, rfl⟩; rw [hb2] at T ⊢; generalize World.alloc w6 _ = W7 at P Z U T hB ⊢; clear hb2)
    | ((with_reducible refine wlAt 44 rfl ?_); refine wpList_loadall rfl 34 (.tmp 2) rfl w.heap.size rfl 266 s.at 34 _ Tryd.underlying34 rfl size_sheet P.out ?_)
    | (go_at_call 75; (refine (HM.out b2 b3 _ P.out T.out U.out).mono ?_); rintro o w8 ⟨rfl, hb⟩; replace P := Go.Lib.hid (row_next hb P.out); replace Z := Go.Lib.hid (row_next hb Z.out); replace hB := Go.Lib.hid (below_next hB.out hb); clear hb)
    | ((with_reducible refine wlOp (.store 34 (.tmp 4) (.tmp 48)) rfl ?_); refine wpList_storeall rfl 34 (.tmp 4) (.tmp 48) rfl (w.heap.size + 1) rfl 266 Sh.zero.at r.at rfl 34 size_sheet Z.out (fun i _ => Sh.one _ i) ?_; replace Z := Go.Lib.hid (row_set Z.out (vrow 266 r.at)); replace hB := Go.Lib.hid (Below_setRow hB.out (show w.heap.size ≤ w.heap.size + 1 by omega) (vrow 266 r.at))))
  exact ret_row2 Tryd.results32 (w.heap.size + 1) 266 r.at 34 _ Tryd.underlying34 rfl size_sheet (.int .i64 0) rfl rfl rfl Z.out ⟨rfl, hB.out⟩
end Go.Proofs.YtmcpaangofdmpaaDoor
