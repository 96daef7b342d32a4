import Derived.Deep.RegionHeld3
import Derived.Test.YtfgcpiipndhllaaDoorRinU1
import Derived.Test.YtfgcpiipndhllaaDoorRinO
namespace Go.Proofs.YtfgcpiipndhllaaDoor
open Go.RowKit
set_option maxRecDepth 100000
set_option linter.unusedVariables false
set_option linter.unusedSimpArgs false
theorem run_loadR {P : Program} {o : Oper} {a : Act} {w : World} {K : Act → World → Prop} {Q : Exit → Act → World → Prop} (ty : TypeId) (x : Operand) (ho : o.op = .load ty x)
    (b : Nat) (hx : a.eval x = .pointer (some ⟨b, 0, none⟩)) (n : Nat) (f : Nat → Value) (t : TypeId) (d : TypeDesc) (hu : P.underlying ty = some d) (hd : d.isRow = true) (hi : (P.info? ty).map (·.size) = some n)
    (hg : w.heap[b]? = some (.cells (vrow n f) t)) : o.upon P a K Q ((execOp a.eval o).run P w) = K (a.put o.dst (.agg (vrow n f))) w := by
  have hl := run_loadVar_row (P := P) w b t ty (vrow n f) (0, 0) d hg hu (by cases d <;> first | rfl | exact hd) (by rw [vrow_size]; exact hi)
  have hr : (Instr.loadAt ty (.pointer (some ⟨b, 0, none⟩))).run P w = .ok (.agg (vrow n f)) w := by
    simp only [Instr.loadAt, Instr.sureAddr, Sem.run_bind, Sem.run_pure, Result.andThen_ok, hl]
  unfold execOp
  simp only [ho, hx, Sem.run_bind, hr, Result.andThen_ok, Sem.run_pure]
  rfl
theorem ret_rowsU {P : Program} {fn : Func} {R : Ending → World → Prop} {a : Act} {w : World} {p u q r : Tmp} {ty ty' : TypeId} (hr : fn.results = #[.cell p ty, .tmp r, .cell u ty', .tmp q]) (b : Nat) (n : Nat) (f : Nat → Value) (t : TypeId) (d : TypeDesc) (hu : P.underlying ty = some d) (hd : d.isRow = true) (hi : (P.info? ty).map (·.size) = some n) (b' : Nat) (n' : Nat) (f' : Nat → Value) (t' : TypeId) (d' : TypeDesc) (hu' : P.underlying ty' = some d') (hd' : d'.isRow = true) (hi' : (P.info? ty').map (·.size) = some n') (v v' : Value)
    (hp : a.tmps.getD p undef = .pointer (some ⟨b, 0, none⟩)) (hp' : a.tmps.getD u undef = .pointer (some ⟨b', 0, none⟩)) (hv : a.tmps.getD r undef = v) (hv' : a.tmps.getD q undef = v') (hdf : a.defers = []) (hg : w.heap[b]? = some (.cells (vrow n f) t)) (hg' : w.heap[b']? = some (.cells (vrow n' f') t')) (h : R (.returned (.tuple #[.agg (vrow n f), v, .agg (vrow n' f'), v'])) w) : bodyPost P fn R .ret a w := by
  refine bodyPost_ret ?_ hdf h
  have hl := run_loadVar_row (P := P) w b t ty (vrow n f) (0, 0) d hg hu (by cases d <;> first | rfl | exact hd) (by rw [vrow_size]; exact hi)
  have hl' := run_loadVar_row (P := P) w b' t' ty' (vrow n' f') (0, 0) d' hg' hu' (by cases d' <;> first | rfl | exact hd') (by rw [vrow_size]; exact hi')
  have hp1 : a.tmps[p]?.getD undef = .pointer (some ⟨b, 0, none⟩) := by simpa using hp
  have hp2 : a.tmps[u]?.getD undef = .pointer (some ⟨b', 0, none⟩) := by simpa using hp'
  have hv1 : a.tmps[r]?.getD undef = v := by simpa using hv
  have hv2 : a.tmps[q]?.getD undef = v' := by simpa using hv'
  simp [results, hr, hp1, hp2, hv1, hv2, asAddr, hl, hl', Result.andThen]
theorem llevel_any (n : Int) (w : World) : Calls Tryd.prog 65 #[.int .i64 n] w fun e w' => e = .returned (.bool (decide (0 ≤ n) && decide (n ≤ 3000))) ∧ Below w.heap.size w w' := by
  by_cases h : 0 ≤ n ∧ n ≤ 3000
  · rw [decide_eq_true h.1, decide_eq_true h.2]
    have HI := Go.Lib.hid fun w => in_yes n 0 3000 h.1 h.2 w
    go_enter Tryd.func65, Tryd.ntmps65
    go_wp2_with (first
      | go_skip
      | (go_at_call 75; (refine (HI.out _).mono ?_); rintro o w1 ⟨rfl, hb⟩))
    go_ret
    exact ⟨rfl, hb⟩
  · rw [show (decide (0 ≤ n) && decide (n ≤ 3000)) = false by simp; omega]
    have HI := Go.Lib.hid fun w => in_no n 0 3000 (by omega) w
    go_enter Tryd.func65, Tryd.ntmps65
    go_wp2_with (first
      | go_skip
      | (go_at_call 75; (refine (HI.out _).mono ?_); rintro o w1 ⟨rfl, hb⟩))
    go_ret
    exact ⟨rfl, hb⟩
def lvl (n : Int) : Bool := decide (0 ≤ n) && decide (n ≤ 3000)
set_option maxHeartbeats 2000000 in
theorem specRU_err (s : Sh) (k b v : Int) (hv : v = 1 ∨ v = 2) (w : World) (hf : s.fit) (hc : bathC (okI s) k (lvl b) = v) : Calls Tryd.prog 18 #[.agg s.row, .int .i64 k, .int .i64 b] w fun o w' => o = .returned (.tuple #[.agg Sh.zero.row, .int .i64 0, .agg (vrow 3 (fun _ => .int .i64 0)), .int .i64 v]) ∧ Below w.heap.size w w' := by
  have HB := Go.Lib.hid fun v c hs => lbath_any s c k (lvl b) v hs hf
  rw [hc] at HB
  have HV := Go.Lib.hid fun w => llevel_any b w
  rw [show (decide (0 ≤ b) && decide (b ≤ 3000)) = lvl b from rfl] at HV
  generalize lvl b = lb at *
  have zz := zero_sheet
  have zy := zero_i3
  clear hf hc
  have P : Hid ((((w.alloc (.cells (vrow 266 s.at) 36)).alloc (.cells (vrow 266 Sh.zero.at) 36)).alloc (.cells (vrow 3 (fun _ => .int .i64 0)) 40)).heap[w.heap.size]? = some (.cells (vrow 266 s.at) 36)) := heap_past _ _ _ _ (by simp <;> omega) (heap_past _ _ _ _ (by simp <;> omega) (heap_at _ _ _ (by simp)))
  have Z : Hid ((((w.alloc (.cells (vrow 266 s.at) 36)).alloc (.cells (vrow 266 Sh.zero.at) 36)).alloc (.cells (vrow 3 (fun _ => .int .i64 0)) 40)).heap[w.heap.size + 1]? = some (.cells (vrow 266 Sh.zero.at) 36)) := heap_past _ _ _ _ (by simp <;> omega) (heap_at _ _ _ (by simp))
  have Y : Hid ((((w.alloc (.cells (vrow 266 s.at) 36)).alloc (.cells (vrow 266 Sh.zero.at) 36)).alloc (.cells (vrow 3 (fun _ => .int .i64 0)) 40)).heap[w.heap.size + 2]? = some (.cells (vrow 3 (fun _ => .int .i64 0)) 40)) := heap_at _ _ _ (by simp)
  have hB : Hid (Below w.heap.size w (((w.alloc (.cells (vrow 266 s.at) 36)).alloc (.cells (vrow 266 Sh.zero.at) 36)).alloc (.cells (vrow 3 (fun _ => .int .i64 0)) 40))) := ((((Below.refl w.heap.size w).alloc (by simp <;> omega) _).alloc (by simp <;> omega) _).alloc (by simp <;> omega) _)
  rcases hv with rfl | rfl
  all_goals
    go_enter Tryd.func18, Tryd.ntmps18
    go_wp2_with (first
      | go_skip
      | (go_at_call 65; (refine (HV.out _).mono ?_); rintro o w1 ⟨rfl, hb⟩; replace P := Go.Lib.hid (row_next hb P.out); replace Z := Go.Lib.hid (row_next hb Z.out); replace Y := Go.Lib.hid (row_next hb Y.out); replace hB := Go.Lib.hid (below_next hB.out hb); clear hb)
      | (go_at_call 64; (refine (HB.out _ _ P.out).mono ?_); rintro o w2 ⟨rfl, hb⟩; replace P := Go.Lib.hid (row_next hb P.out); replace Z := Go.Lib.hid (row_next hb Z.out); replace Y := Go.Lib.hid (row_next hb Y.out); replace hB := Go.Lib.hid (below_next hB.out hb); clear hb)
      | ((with_reducible refine wlAt 19 rfl ?_); refine wpList_built rfl 36 [] rfl [] (by rfl) _ built_zsR ?_)
      | ((with_reducible refine wlAt 20 rfl ?_); refine wpList_built rfl 40 [] rfl [] (by rfl) _ built_zi3 ?_)
      | ((with_reducible refine wlOp (.store 36 (.tmp 6) (.tmp 19)) rfl ?_); refine wpList_storeall rfl 36 (.tmp 6) (.tmp 19) rfl (w.heap.size + 1) rfl 266 Sh.zero.at Sh.zero.at rfl 36 size_sheet Z.out (fun i _ => Sh.one _ i) ?_; replace Y := Go.Lib.hid (row_set' (g := w.heap.size + 1) (show w.heap.size + 2 ≠ w.heap.size + 1 by omega) Y.out (vrow 266 Sh.zero.at)); replace Z := Go.Lib.hid (row_set Z.out (vrow 266 Sh.zero.at)); replace hB := Go.Lib.hid (Below_setRow hB.out (show w.heap.size ≤ w.heap.size + 1 by omega) (vrow 266 Sh.zero.at)))
      | ((with_reducible refine wlOp (.store 40 (.tmp 8) (.tmp 20)) rfl ?_); refine wpList_storeall rfl 40 (.tmp 8) (.tmp 20) rfl (w.heap.size + 2) rfl 3 (fun _ => .int .i64 0) (fun _ => .int .i64 0) rfl 40 size_i3 Y.out (fun _ _ => rfl) ?_; replace Z := Go.Lib.hid (row_set' (g := w.heap.size + 2) (show w.heap.size + 1 ≠ w.heap.size + 2 by omega) Z.out (vrow 3 (fun _ => .int .i64 0))); replace Y := Go.Lib.hid (row_set Y.out (vrow 3 (fun _ => .int .i64 0))); replace hB := Go.Lib.hid (Below_setRow hB.out (show w.heap.size ≤ w.heap.size + 2 by omega) (vrow 3 (fun _ => .int .i64 0)))))
    exact ret_rowsU Tryd.results18 (w.heap.size + 1) 266 Sh.zero.at 36 _ Tryd.underlying36 rfl size_sheet (w.heap.size + 2) 3 (fun _ => .int .i64 0) 40 _ Tryd.underlying40 rfl size_i3 (.int .i64 0) (.int .i64 _) rfl rfl rfl rfl rfl Z.out Y.out ⟨rfl, hB.out⟩
set_option maxHeartbeats 8000000 in
theorem specRU_ok (s : Sh) (k b : Int) (j a c : Nat) (w : World) (hf : s.fit) (hc0 : bathC (okI s) k (lvl b) = 0) (ea : s.wide = a) (ec : s.high = c) (ha : 1 ≤ a ∧ a ≤ 8) (hc : 1 ≤ c ∧ c ≤ 8) (hgd : Gd s s) (h1 : 1 ≤ k) (h2 : k ≤ 15) (hj : j ≤ 200000) (hj1 : dk (cellsL a c) (rnds k (cellsL a c) ⟨s, 0, fun _ => 0⟩ j).s ≤ b) (hj2 : ∀ i, i < j → b < dk (cellsL a c) (rnds k (cellsL a c) ⟨s, 0, fun _ => 0⟩ i).s) :
    Calls Tryd.prog 18 #[.agg s.row, .int .i64 k, .int .i64 b] w fun o w' => o = .returned (.tuple #[.agg (rnds k (cellsL a c) ⟨s, 0, fun _ => 0⟩ j).s.row, .int .i64 (rnds k (cellsL a c) ⟨s, 0, fun _ => 0⟩ j).n, .agg (vrow 3 (fun i => .int .i64 ((rnds k (cellsL a c) ⟨s, 0, fun _ => 0⟩ j).o i))), .int .i64 0]) ∧ Below w.heap.size w w' := by
  have HB := Go.Lib.hid fun v b' hs => lbath_any s b' k (lvl b) v hs hf
  rw [hc0] at HB
  have HV := Go.Lib.hid fun w => llevel_any b w
  rw [show (decide (0 ≤ b) && decide (b ≤ 3000)) = lvl b from rfl] at HV
  generalize lvl b = lb at *
  have HRUG := Go.Lib.hid fun i => RUG.all hgd h1 h2 (cellsL a c) i
  have HRN := Go.Lib.hid fun (V : RU) (hV : Gd s V.s) w b' hs => lrinse_any V.s b' a c k w hs (hV.wide.trans ea) (hV.high.trans ec) ha hc (Gd.start hV.ok hV.ink hV.fit) h1 h2
  have HRB := Go.Lib.hid fun (V : RU) (hV : Gd s V.s) (m : Nat) (hm : m < 3) => (RinG.cells h1 h2 (cellsL a c) (RinG.start (Gd.start hV.ok hV.ink hV.fit) fun _ => 0)).bd hm hV.ink
  have HDK := Go.Lib.hid fun (V : RU) (hV : Gd s V.s) w b' hs => ldk_any V.s b' a c w hs (hV.wide.trans ea) (hV.high.trans ec) ha hc hV.fit
  have HJ := Go.Lib.hid hj2
  have HI := Go.Lib.hid hgd.ink
  have zz := zero_sheet
  have zy := zero_i3
  clear hf hc0 hgd hj2
  generalize cellsL a c = L at *
  have P : Hid ((((w.alloc (.cells (vrow 266 s.at) 36)).alloc (.cells (vrow 266 Sh.zero.at) 36)).alloc (.cells (vrow 3 (fun _ => .int .i64 0)) 40)).heap[w.heap.size]? = some (.cells (vrow 266 s.at) 36)) := heap_past _ _ _ _ (by simp <;> omega) (heap_past _ _ _ _ (by simp <;> omega) (heap_at _ _ _ (by simp)))
  have Z : Hid ((((w.alloc (.cells (vrow 266 s.at) 36)).alloc (.cells (vrow 266 Sh.zero.at) 36)).alloc (.cells (vrow 3 (fun _ => .int .i64 0)) 40)).heap[w.heap.size + 1]? = some (.cells (vrow 266 Sh.zero.at) 36)) := heap_past _ _ _ _ (by simp <;> omega) (heap_at _ _ _ (by simp))
  have Y : Hid ((((w.alloc (.cells (vrow 266 s.at) 36)).alloc (.cells (vrow 266 Sh.zero.at) 36)).alloc (.cells (vrow 3 (fun _ => .int .i64 0)) 40)).heap[w.heap.size + 2]? = some (.cells (vrow 3 (fun _ => .int .i64 0)) 40)) := heap_at _ _ _ (by simp)
  have hB : Hid (Below w.heap.size w (((w.alloc (.cells (vrow 266 s.at) 36)).alloc (.cells (vrow 266 Sh.zero.at) 36)).alloc (.cells (vrow 3 (fun _ => .int .i64 0)) 40))) := ((((Below.refl w.heap.size w).alloc (by simp <;> omega) _).alloc (by simp <;> omega) _).alloc (by simp <;> omega) _)
  go_enter Tryd.func18, Tryd.ntmps18
  go_wp2_with (first
    | go_skip
    | (go_at_call 65; (refine (HV.out _).mono ?_); rintro o w1 ⟨rfl, hb⟩; replace P := Go.Lib.hid (row_next hb P.out); replace Z := Go.Lib.hid (row_next hb Z.out); replace Y := Go.Lib.hid (row_next hb Y.out); replace hB := Go.Lib.hid (below_next hB.out hb); clear hb)
    | (go_at_call 64; (refine (HB.out _ _ P.out).mono ?_); rintro o w2 ⟨rfl, hb⟩; replace P := Go.Lib.hid (row_next hb P.out); replace Z := Go.Lib.hid (row_next hb Z.out); replace Y := Go.Lib.hid (row_next hb Y.out); replace hB := Go.Lib.hid (below_next hB.out hb); clear hb)
    | ((with_reducible refine wlAt 22 rfl ?_); refine wpList_built rfl 40 [] rfl [] (by rfl) _ built_zi3 ?_)
    | ((with_reducible refine wlOp (.store 40 (.tmp 11) (.tmp 22)) rfl ?_); refine wpList_storeall rfl 40 (.tmp 11) (.tmp 22) rfl _ rfl 3 (fun _ => .int .i64 0) (fun _ => .int .i64 0) rfl 40 size_i3 (heap_at _ _ _ rfl) (fun i _ => rfl) ?_; rw [setRow_at _ _ _ _ _ rfl]; have D := Go.Lib.hid (heap_at w2 (.cells (vrow 3 (fun _ => .int .i64 0)) 40) _ rfl); have nP := row_lt P.out; have nZ := row_lt Z.out; have nY := row_lt Y.out; have hbs := hB.out.size; replace P := Go.Lib.hid (heap_past _ (.cells (vrow 3 (fun _ => .int .i64 0)) 40) _ _ nP P.out); replace Z := Go.Lib.hid (heap_past _ (.cells (vrow 3 (fun _ => .int .i64 0)) 40) _ _ nZ Z.out); replace Y := Go.Lib.hid (heap_past _ (.cells (vrow 3 (fun _ => .int .i64 0)) 40) _ _ nY Y.out); replace hB := Go.Lib.hid (hB.out.alloc hbs (.cells (vrow 3 (fun _ => .int .i64 0)) 40)); generalize w2.heap.size = nb at D nP nZ nY hbs ⊢; generalize w2.alloc _ = w3 at P Z Y D hB ⊢))
  obtain ⟨wo, hwo⟩ : ∃ wo : World, wo = w3 := ⟨_, rfl⟩
  rw [← hwo] at P Z Y D hB ⊢
  clear hwo w3
  go_loopw [12] (fun nv wr => ∃ i : Nat, i ≤ j ∧ nv = .int .i64 i ∧ wr.heap[w.heap.size]? = some (.cells (vrow 266 (rnds k L ⟨s, 0, fun _ => 0⟩ i).s.at) 36) ∧ wr.heap[w.heap.size + 1]? = some (.cells (vrow 266 Sh.zero.at) 36) ∧ wr.heap[w.heap.size + 2]? = some (.cells (vrow 3 (fun _ => .int .i64 0)) 40) ∧ wr.heap[nb]? = some (.cells (vrow 3 (a3f (rnds k L ⟨s, 0, fun _ => 0⟩ i).o)) 40) ∧ Below w.heap.size w wr) (fun nv _ => j - (intOf nv).toNat)
  case atStart => exact ⟨0, by omega, rfl, P.out, Z.out, Y.out, D.out, hB.out⟩
  case round =>
    clear P Z Y D hB
    obtain ⟨i, hi, rfl, P, Z, Y, D, hB⟩ := hrel
    have hrug := HRUG.out i
    replace P := Go.Lib.hid P; replace Z := Go.Lib.hid Z; replace Y := Go.Lib.hid Y; replace D := Go.Lib.hid D; replace hB := Go.Lib.hid hB
    by_cases hlt : i < j
    · have hgt := HJ.out i hlt
      have hst : rnds k L ⟨s, 0, fun _ => 0⟩ (i + 1) = rnd k L (rnds k L ⟨s, 0, fun _ => 0⟩ i) := rfl
      have HST := Go.Lib.hid hst
      clear hst
      generalize rnds k L ⟨s, 0, fun _ => 0⟩ i = V at P D HST hgt hrug
      have hGV := hrug.gd
      have HDV := Go.Lib.hid fun w hs => HDK.out V hGV w w.heap.size hs
      have HDV := Go.Lib.hid fun w' hs => HDK.out V hGV w' w.heap.size hs
      have HR := Go.Lib.hid fun w' hs => HRN.out V hGV w' w.heap.size hs
      have hob : ∀ m, m < 3 → -4000000 ≤ V.o m + (rinS k (V.s, fun _ => 0) L).2 m ∧ V.o m + (rinS k (V.s, fun _ => 0) L).2 m ≤ 4000000 := fun m hm => by
        have q1 := HRB.out V hGV m hm
        have q2 := hrug.sum m hm
        have q3 := hrug.bd HI.out hm
        have q4 := isum_ink HI.out m 64
        have q5 := isum_ink hGV.ink m 64
        omega
      have HPL := Go.Lib.hid fun w => lplus_any V.o (rinS k (V.s, fun _ => 0) L).2 hob w
      replace HST : Hid (rnds k L ⟨s, 0, fun _ => 0⟩ (i + 1) = ⟨(rinS k (V.s, fun _ => 0) L).1, V.n + 1, fun m => V.o m + (rinS k (V.s, fun _ => 0) L).2 m⟩) := HST
      clear hob hrug hGV
      generalize rinS k (V.s, fun _ => 0) L = T at HR HPL HST
      obtain ⟨T, oo⟩ := T
      dsimp only at HR HPL HST
      have hdd : decide (b < dk L V.s) = true := by simpa using hgt
      generalize dk L V.s = dv at hgt hdd HDV
      go_wp2_with (first
        | go_skip
        | (go_at_call 66; (refine (HDV.out _ P.out).mono ?_); rintro o w1 ⟨rfl, hb⟩; replace D := Go.Lib.hid (row_next hb D.out); replace P := Go.Lib.hid (row_next hb P.out); replace Z := Go.Lib.hid (row_next hb Z.out); replace Y := Go.Lib.hid (row_next hb Y.out); replace hB := Go.Lib.hid (below_next hB.out hb); clear hb))
      refine wp_region_noPanic ?_
      refine wp_region_held_drew (S := fun W' => Below w.heap.size w W' ∧ W'.heap[w.heap.size + 1]? = some (.cells (vrow 266 Sh.zero.at) 36) ∧ W'.heap[w.heap.size + 2]? = some (.cells (vrow 3 (fun _ => .int .i64 0)) 40)) (by kernel_rfl) ⟨hB.out.drew, Z.out, Y.out⟩ (fun hH => ?_)
      have P2 := drwS P.out
      have D2 := drwS D.out
      clear hB Z Y P D
      generalize World.drew _ = Wd at hH P2 D2 ⊢
      refine wpAnyH_take (i := 1) (v := (.int .i64 k)) rfl (by kernel_rfl) (by kernel_rfl) (by kernel_rfl) (fun _ _ _ h => h) (.inl ⟨by kernel_rfl, fun w _ => by go_simp⟩) hH ?_
      (try simp only [Act.put, List.setIfInBounds_toArray, List.set_cons_succ, List.set_cons_zero])
      refine wpAnyH_ready (rs := [0, 2]) (by kernel_rfl) (by simp) (AllReadyH.cons rfl (fun K hK => ?_) (AllReadyH.cons rfl (fun K hK => ?_) AllReadyH.nil))
      · (rw [if_pos (by kernel_rfl)]; unfold Oper.wp; rw [run_loadR 40 (.tmp 11) rfl nb (by kernel_rfl) 3 (a3f V.o) 40 _ Tryd.underlying40 rfl size_i3 D2]; refine hK.out _ _ hH (fun hH => ?_); clear hK K; (try simp only [List.getElem_toArray, List.getElem_cons_succ, List.getElem_cons_zero, Act.put, List.setIfInBounds_toArray, List.set_cons_succ, List.set_cons_zero]))
        refine wpAnyH_ready (rs := [2]) (by kernel_rfl) (by simp) (AllReadyH.cons rfl (fun K hK => ?_) AllReadyH.nil)
        (rw [if_pos (by kernel_rfl)]; go_simp; go_at_call 68; refine (HR.out _ P2).mono ?_; rintro o X1 ⟨rfl, hg, hp⟩; have nD := row_lt D2; have nZ := row_lt hH.2.1; have nY := row_lt hH.2.2; replace hH : Below w.heap.size w X1 ∧ X1.heap[w.heap.size + 1]? = some (.cells (vrow 266 Sh.zero.at) 36) ∧ X1.heap[w.heap.size + 2]? = some (.cells (vrow 3 (fun _ => .int .i64 0)) 40) := ⟨hH.1.grown hg hH.1.size (fun q hq => by cases hq; omega), (hg.block _ nZ (by simp <;> omega)).trans hH.2.1, (hg.block _ nY (by simp <;> omega)).trans hH.2.2⟩; replace D2 := (hg.block _ nD (by simp <;> omega)).trans D2; replace P2 := hp; clear hg hp nD nZ nY; refine hK.out _ _ hH (fun hH => ?_); clear hK K; (try simp only [List.getElem_toArray, List.getElem_cons_succ, List.getElem_cons_zero, Act.put, List.setIfInBounds_toArray, List.set_cons_succ, List.set_cons_zero]))
        refine wpAnyH_ready (rs := [3]) (by kernel_rfl) (by simp) (AllReadyH.cons rfl (fun K hK => ?_) AllReadyH.nil)
        (rw [if_pos (by kernel_rfl)]; go_simp; go_at_call 67; refine (HPL.out _).mono ?_; rintro o X2 ⟨rfl, hb⟩; replace hH : Below w.heap.size w X2 ∧ X2.heap[w.heap.size + 1]? = some (.cells (vrow 266 Sh.zero.at) 36) ∧ X2.heap[w.heap.size + 2]? = some (.cells (vrow 3 (fun _ => .int .i64 0)) 40) := ⟨hH.1.trans (hb.mono hH.1.size), row_next hb hH.2.1, row_next hb hH.2.2⟩; replace P2 := row_next hb P2; replace D2 := row_next hb D2; clear hb; refine hK.out _ _ hH (fun hH => ?_); clear hK K; (try simp only [List.getElem_toArray, List.getElem_cons_succ, List.getElem_cons_zero, Act.put, List.setIfInBounds_toArray, List.set_cons_succ, List.set_cons_zero]))
        refine wpAnyH_ready (rs := [4]) (by kernel_rfl) (by simp) (AllReadyH.cons rfl (fun K hK => ?_) AllReadyH.nil)
        (rw [if_pos (by kernel_rfl)]; unfold Oper.wp; rw [run_storemid 40 (.tmp 11) (.tmp 29) rfl nb 0 rfl 3 3 (a3f V.o) (a3f fun m => V.o m + oo m) rfl 40 size_i3 D2 (by omega) (fun i _ => rfl), vrow_over_all, Oper.upon_skip]; replace P2 := row_set' (g := nb) (show w.heap.size ≠ nb by omega) P2 (vrow 3 (a3f fun m => V.o m + oo m)); have hH2 : Below w.heap.size w (X2.setRow nb (vrow 3 (a3f fun m => V.o m + oo m))) ∧ (X2.setRow nb (vrow 3 (a3f fun m => V.o m + oo m))).heap[w.heap.size + 1]? = some (.cells (vrow 266 Sh.zero.at) 36) ∧ (X2.setRow nb (vrow 3 (a3f fun m => V.o m + oo m))).heap[w.heap.size + 2]? = some (.cells (vrow 3 (fun _ => .int .i64 0)) 40) := ⟨Below_setRow hH.1 (by omega) _, row_set' (by omega) hH.2.1 _, row_set' (by omega) hH.2.2 _⟩; replace D2 := row_set D2 (vrow 3 (a3f fun m => V.o m + oo m)); refine hK.out _ _ hH2 (fun hH => ?_); clear hK K hH2; (try simp only [List.getElem_toArray, List.getElem_cons_succ, List.getElem_cons_zero, Act.put, List.setIfInBounds_toArray, List.set_cons_succ, List.set_cons_zero]))
        (refine wpAnyH_done (by kernel_rfl) ?_ _; refine NoPanic.normal ?_; (try simp only [List.getElem_toArray, List.getElem_cons_succ, List.getElem_cons_zero, Act.put, List.setIfInBounds_toArray, List.set_cons_succ, List.set_cons_zero]); obtain ⟨hB, Z, Y⟩ := hH; replace hB := Go.Lib.hid hB; replace Z := Go.Lib.hid Z; replace Y := Go.Lib.hid Y; replace P2 := Go.Lib.hid P2; replace D2 := Go.Lib.hid D2)
        go_wp2
        go_roundw
        case rel => exact ⟨i + 1, by omega, by go_num, by rw [HST.out]; exact P2.out, Z.out, Y.out, by rw [HST.out]; exact D2.out, hB.out⟩
        case measure => simp [intOf]; omega
      · (rw [if_pos (by kernel_rfl)]; go_simp; go_at_call 68; refine (HR.out _ P2).mono ?_; rintro o X1 ⟨rfl, hg, hp⟩; have nD := row_lt D2; have nZ := row_lt hH.2.1; have nY := row_lt hH.2.2; replace hH : Below w.heap.size w X1 ∧ X1.heap[w.heap.size + 1]? = some (.cells (vrow 266 Sh.zero.at) 36) ∧ X1.heap[w.heap.size + 2]? = some (.cells (vrow 3 (fun _ => .int .i64 0)) 40) := ⟨hH.1.grown hg hH.1.size (fun q hq => by cases hq; omega), (hg.block _ nZ (by simp <;> omega)).trans hH.2.1, (hg.block _ nY (by simp <;> omega)).trans hH.2.2⟩; replace D2 := (hg.block _ nD (by simp <;> omega)).trans D2; replace P2 := hp; clear hg hp nD nZ nY; refine hK.out _ _ hH (fun hH => ?_); clear hK K; (try simp only [List.getElem_toArray, List.getElem_cons_succ, List.getElem_cons_zero, Act.put, List.setIfInBounds_toArray, List.set_cons_succ, List.set_cons_zero]))
        refine wpAnyH_ready (rs := [0]) (by kernel_rfl) (by simp) (AllReadyH.cons rfl (fun K hK => ?_) AllReadyH.nil)
        (rw [if_pos (by kernel_rfl)]; unfold Oper.wp; rw [run_loadR 40 (.tmp 11) rfl nb (by kernel_rfl) 3 (a3f V.o) 40 _ Tryd.underlying40 rfl size_i3 D2]; refine hK.out _ _ hH (fun hH => ?_); clear hK K; (try simp only [List.getElem_toArray, List.getElem_cons_succ, List.getElem_cons_zero, Act.put, List.setIfInBounds_toArray, List.set_cons_succ, List.set_cons_zero]))
        refine wpAnyH_ready (rs := [3]) (by kernel_rfl) (by simp) (AllReadyH.cons rfl (fun K hK => ?_) AllReadyH.nil)
        (rw [if_pos (by kernel_rfl)]; go_simp; go_at_call 67; refine (HPL.out _).mono ?_; rintro o X2 ⟨rfl, hb⟩; replace hH : Below w.heap.size w X2 ∧ X2.heap[w.heap.size + 1]? = some (.cells (vrow 266 Sh.zero.at) 36) ∧ X2.heap[w.heap.size + 2]? = some (.cells (vrow 3 (fun _ => .int .i64 0)) 40) := ⟨hH.1.trans (hb.mono hH.1.size), row_next hb hH.2.1, row_next hb hH.2.2⟩; replace P2 := row_next hb P2; replace D2 := row_next hb D2; clear hb; refine hK.out _ _ hH (fun hH => ?_); clear hK K; (try simp only [List.getElem_toArray, List.getElem_cons_succ, List.getElem_cons_zero, Act.put, List.setIfInBounds_toArray, List.set_cons_succ, List.set_cons_zero]))
        refine wpAnyH_ready (rs := [4]) (by kernel_rfl) (by simp) (AllReadyH.cons rfl (fun K hK => ?_) AllReadyH.nil)
        (rw [if_pos (by kernel_rfl)]; unfold Oper.wp; rw [run_storemid 40 (.tmp 11) (.tmp 29) rfl nb 0 rfl 3 3 (a3f V.o) (a3f fun m => V.o m + oo m) rfl 40 size_i3 D2 (by omega) (fun i _ => rfl), vrow_over_all, Oper.upon_skip]; replace P2 := row_set' (g := nb) (show w.heap.size ≠ nb by omega) P2 (vrow 3 (a3f fun m => V.o m + oo m)); have hH2 : Below w.heap.size w (X2.setRow nb (vrow 3 (a3f fun m => V.o m + oo m))) ∧ (X2.setRow nb (vrow 3 (a3f fun m => V.o m + oo m))).heap[w.heap.size + 1]? = some (.cells (vrow 266 Sh.zero.at) 36) ∧ (X2.setRow nb (vrow 3 (a3f fun m => V.o m + oo m))).heap[w.heap.size + 2]? = some (.cells (vrow 3 (fun _ => .int .i64 0)) 40) := ⟨Below_setRow hH.1 (by omega) _, row_set' (by omega) hH.2.1 _, row_set' (by omega) hH.2.2 _⟩; replace D2 := row_set D2 (vrow 3 (a3f fun m => V.o m + oo m)); refine hK.out _ _ hH2 (fun hH => ?_); clear hK K hH2; (try simp only [List.getElem_toArray, List.getElem_cons_succ, List.getElem_cons_zero, Act.put, List.setIfInBounds_toArray, List.set_cons_succ, List.set_cons_zero]))
        (refine wpAnyH_done (by kernel_rfl) ?_ _; refine NoPanic.normal ?_; (try simp only [List.getElem_toArray, List.getElem_cons_succ, List.getElem_cons_zero, Act.put, List.setIfInBounds_toArray, List.set_cons_succ, List.set_cons_zero]); obtain ⟨hB, Z, Y⟩ := hH; replace hB := Go.Lib.hid hB; replace Z := Go.Lib.hid Z; replace Y := Go.Lib.hid Y; replace P2 := Go.Lib.hid P2; replace D2 := Go.Lib.hid D2)
        go_wp2
        go_roundw
        case rel => exact ⟨i + 1, by omega, by go_num, by rw [HST.out]; exact P2.out, Z.out, Y.out, by rw [HST.out]; exact D2.out, hB.out⟩
        case measure => simp [intOf]; omega
    · obtain rfl : i = j := by omega
      have HDV := Go.Lib.hid fun w' hs => HDK.out _ hrug.gd w' w.heap.size hs
      have hdd : decide (b < dk L (rnds k L ⟨s, 0, fun _ => 0⟩ i).s) = false := by simpa using hj1
      have hnn := hrug.n
      obtain ⟨V, hV⟩ : ∃ V, rnds k L ⟨s, 0, fun _ => 0⟩ i = V := ⟨_, rfl⟩
      rw [hV] at P D HDV hdd hnn
      replace hV := Go.Lib.hid hV
      replace hnn := Go.Lib.hid hnn
      generalize dk L V.s = dv at hdd HDV
      go_wp2_with (first
        | go_skip
        | (go_at_call 66; (refine (HDV.out _ P.out).mono ?_); rintro o w1 ⟨rfl, hb⟩; replace D := Go.Lib.hid (row_next hb D.out); replace P := Go.Lib.hid (row_next hb P.out); replace Z := Go.Lib.hid (row_next hb Z.out); replace Y := Go.Lib.hid (row_next hb Y.out); replace hB := Go.Lib.hid (below_next hB.out hb); clear hb))
      refine Code.wp_mono (Q := fun e a' W' => e = .normal ∧ a'.tmps.getD 6 undef = .pointer (some ⟨w.heap.size + 1, 0, none⟩) ∧ a'.tmps.getD 8 undef = .pointer (some ⟨w.heap.size + 2, 0, none⟩) ∧ a'.tmps.getD 7 undef = .int .i64 i ∧ a'.tmps.getD 9 undef = .int .i64 0 ∧ a'.defers = [] ∧ Below w.heap.size w W' ∧ W'.heap[w.heap.size + 1]? = some (.cells (vrow 266 V.s.at) 36) ∧ W'.heap[w.heap.size + 2]? = some (.cells (vrow 3 (a3f V.o)) 40)) ?_ ?_
      rotate_left
      · refine wp_region_held_drew (S := fun W' => Below w.heap.size w W' ∧ W'.heap[w.heap.size]? = some (.cells (vrow 266 V.s.at) 36) ∧ W'.heap[nb]? = some (.cells (vrow 3 (a3f V.o)) 40)) (by kernel_rfl) ⟨hB.out.drew, P.out, D.out⟩ (fun hH => ?_)
        have V6 := drwS Z.out
        have V8 := drwS Y.out
        generalize World.drew _ = W at hH V6 V8 ⊢
        refine wpAnyH_take (i := 0) (v := (.agg (vrow 266 V.s.at))) rfl (by kernel_rfl) (by kernel_rfl) (by kernel_rfl) (fun _ _ _ h => by cases h.1) (yields_row (by rfl) 36 _ rfl (w.heap.size) rfl 266 V.s.at 36 _ Tryd.underlying36 rfl size_sheet (fun _ h => h.2.1)) hH ?_
        (try simp only [Act.put, List.setIfInBounds_toArray, List.set_cons_succ, List.set_cons_zero])
        refine wpAnyH_take (i := 1) (v := (.int .i64 i)) rfl (by kernel_rfl) (by kernel_rfl) (by kernel_rfl) (fun _ _ _ h => by cases h.1) (.inl ⟨by rfl, fun w _ => by go_simp⟩) hH ?_
        (try simp only [Act.put, List.setIfInBounds_toArray, List.set_cons_succ, List.set_cons_zero])
        refine wpAnyH_take (i := 2) (v := (.agg (vrow 3 (a3f V.o)))) rfl (by kernel_rfl) (by kernel_rfl) (by kernel_rfl) (fun _ _ _ h => by cases h.1) (yields_row (by rfl) 40 _ rfl (nb) rfl 3 (a3f V.o) 40 _ Tryd.underlying40 rfl size_i3 (fun _ h => h.2.2)) hH ?_
        (try simp only [Act.put, List.setIfInBounds_toArray, List.set_cons_succ, List.set_cons_zero])
        refine wpAnyH_ready (rs := [3]) (by kernel_rfl) (by simp) (AllReadyH.cons rfl (fun K hK => ?_) AllReadyH.nil)
        rw [if_pos (by rfl)]
        unfold Oper.wp
        rw [run_storemid 36 (.tmp 6) (.tmp 32) rfl (w.heap.size + 1) 0 rfl 266 266 Sh.zero.at V.s.at rfl 36 size_sheet V6 (by omega) (fun i _ => Sh.one _ i), vrow_over_all, Oper.upon_skip]
        replace V6 := row_set V6 (vrow 266 V.s.at)
        replace V8 := row_set' (show w.heap.size + 2 ≠ w.heap.size + 1 by omega) V8 (vrow 266 V.s.at)
        have hH2 : Below w.heap.size w (W.setRow (w.heap.size + 1) (vrow 266 V.s.at)) ∧ (W.setRow (w.heap.size + 1) (vrow 266 V.s.at)).heap[w.heap.size]? = some (.cells (vrow 266 V.s.at) 36) ∧ (W.setRow (w.heap.size + 1) (vrow 266 V.s.at)).heap[nb]? = some (.cells (vrow 3 (a3f V.o)) 40) := ⟨Below_setRow hH.1 (by omega) _, row_set' (by omega) hH.2.1 _, row_set' (by omega) hH.2.2 _⟩
        refine hK.out _ _ hH2 (fun hH => ?_)
        clear hK K hH2
        (try simp only [Act.put, List.setIfInBounds_toArray, List.set_cons_succ, List.set_cons_zero])
        generalize (W.setRow (w.heap.size + 1) (vrow 266 V.s.at)) = Y0 at hH V6 V8 ⊢
        refine wpAnyH_take (i := 4) (v := (.int .i64 i)) rfl (by kernel_rfl) (by kernel_rfl) (by kernel_rfl) (fun _ _ _ h => by cases h.1) (.inl ⟨by rfl, fun w _ => by go_simp⟩) hH ?_
        (try simp only [Act.put, List.setIfInBounds_toArray, List.set_cons_succ, List.set_cons_zero])
        refine wpAnyH_ready (rs := [5]) (by kernel_rfl) (by simp) (AllReadyH.cons rfl (fun K hK => ?_) AllReadyH.nil)
        rw [if_pos (by rfl)]
        unfold Oper.wp
        rw [run_storemid 40 (.tmp 8) (.tmp 34) rfl (w.heap.size + 2) 0 rfl 3 3 (fun _ => .int .i64 0) (a3f V.o) rfl 40 size_i3 V8 (by omega) (fun i _ => rfl), vrow_over_all, Oper.upon_skip]
        replace V6 := row_set' (show w.heap.size + 1 ≠ w.heap.size + 2 by omega) V6 (vrow 3 (a3f V.o))
        replace V8 := row_set V8 (vrow 3 (a3f V.o))
        have hH2 : Below w.heap.size w (Y0.setRow (w.heap.size + 2) (vrow 3 (a3f V.o))) ∧ (Y0.setRow (w.heap.size + 2) (vrow 3 (a3f V.o))).heap[w.heap.size]? = some (.cells (vrow 266 V.s.at) 36) ∧ (Y0.setRow (w.heap.size + 2) (vrow 3 (a3f V.o))).heap[nb]? = some (.cells (vrow 3 (a3f V.o)) 40) := ⟨Below_setRow hH.1 (by omega) _, row_set' (by omega) hH.2.1 _, row_set' (by omega) hH.2.2 _⟩
        refine hK.out _ _ hH2 (fun hH => ?_)
        clear hK K hH2
        (try simp only [Act.put, List.setIfInBounds_toArray, List.set_cons_succ, List.set_cons_zero])
        generalize (Y0.setRow (w.heap.size + 2) (vrow 3 (a3f V.o))) = Y1 at hH V6 V8 ⊢
        refine wpAnyH_take (i := 6) (v := (.int .i64 0)) rfl (by kernel_rfl) (by kernel_rfl) (by kernel_rfl) (fun _ _ _ h => by cases h.1) (.inl ⟨by rfl, fun w _ => by go_simp⟩) hH ?_
        (try simp only [Act.put, List.setIfInBounds_toArray, List.set_cons_succ, List.set_cons_zero])
        refine wpAnyH_done (by kernel_rfl) ?_ _
        exact ⟨rfl, rfl, rfl, rfl, rfl, rfl, hH.1, V6, V8⟩
      rintro e1 a1 W1 ⟨rfl, h_6, h_8, h_7, h_9, hdf, hB1, V6, V8⟩
      go_wp2
      exact ret_rowsU Tryd.results18 (w.heap.size + 1) 266 V.s.at 36 _ Tryd.underlying36 rfl size_sheet (w.heap.size + 2) 3 (a3f V.o) 40 _ Tryd.underlying40 rfl size_i3 (.int .i64 i) (.int .i64 0) h_6 h_8 h_7 h_9 hdf V6 V8 ⟨by rw [hV.out, hnn.out]; rfl, hB1⟩
end Go.Proofs.YtfgcpiipndhllaaDoor
