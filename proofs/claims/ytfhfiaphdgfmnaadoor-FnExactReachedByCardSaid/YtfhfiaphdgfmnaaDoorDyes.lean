import Derived.Deep.RegionHeld3
import Derived.Test.YtfhfiaphdgfmnaaDoorDyeIn
import Derived.Test.YtfhfiaphdgfmnaaDoorG1
namespace Go.Proofs.YtfhfiaphdgfmnaaDoor
open Go.RowKit
set_option maxRecDepth 100000
set_option linter.unusedVariables false
set_option linter.unusedSimpArgs false
attribute [local go_sem] Oper.semAt_some
theorem res_rowD {P : Program} {fn : Func} {p : Tmp} {ty : TypeId} (hr : fn.results = #[.cell p ty]) (tmps : Array Value) (w : World) (b : Nat) (n : Nat) (f : Nat → Value) (t : TypeId) (d : TypeDesc) (hu : P.underlying ty = some d) (hd : d.isRow = true) (hi : (P.info? ty).map (·.size) = some n)
    (hp : tmps.getD p undef = .pointer (some ⟨b, 0, none⟩)) (hg : w.heap[b]? = some (.cells (vrow n f) t)) : (results fn tmps).run P w = .ok (.agg (vrow n f)) w := by
  have hl := run_loadVar_row (P := P) w b t ty (vrow n f) (0, 0) d hg hu (by cases d <;> first | rfl | exact hd) (by rw [vrow_size]; exact hi)
  have hp1 : tmps[p]?.getD undef = .pointer (some ⟨b, 0, none⟩) := by simpa using hp
  simp [results, hr, hp1, asAddr, hl]
theorem wlAtD (d : Nat) {F : Fence} {n : Nat} {P : Program} {ops : Array Oper} {Q : Exit → Act → World → Prop} {l : List Oper} {o : Oper} {a : Act} {w : World} (_ : o.dst = some d) (h : wpListIn F n P ops Q (o :: l) a w) : wpListIn F n P ops Q (o :: l) a w := h
theorem wlOpD (p : Op) {F : Fence} {n : Nat} {P : Program} {ops : Array Oper} {Q : Exit → Act → World → Prop} {l : List Oper} {o : Oper} {a : Act} {w : World} (_ : o.op = p) (h : wpListIn F n P ops Q (o :: l) a w) : wpListIn F n P ops Q (o :: l) a w := h
set_option maxRecDepth 100000 in
set_option maxHeartbeats 8000000 in
theorem dyes_any (s : Sh) (w : World) (hf : s.fit) (hv : okI s = true) : Calls Tryd.prog 64 #[.agg s.row] w fun o w' => o = .returned (.agg (vrow 3 (sumsF s 64 0))) ∧ Below w.heap.size w w' := by
  have hb := hv
  simp only [okI, Bool.and_eq_true, decide_eq_true_eq] at hb
  obtain ⟨⟨hb1, hb2⟩, ⟨hb3, hb4⟩, _⟩ := hb
  have hq := inkF_all s hv
  obtain ⟨a, ha⟩ : ∃ a : Nat, s.wide = a := ⟨s.wide.toNat, by omega⟩
  obtain ⟨c, hc⟩ : ∃ c : Nat, s.high = c := ⟨s.high.toNat, by omega⟩
  rw [show s.wide.toNat = a by omega, show s.high.toNat = c by omega] at hq
  have ha8 : a ≤ 8 := by omega
  have hc8 : c ≤ 8 := by omega
  replace hq := Go.Lib.hid hq
  clear hb1 hb2 hb3 hb4
  have zz := zero_i3
  clear hv
  have P : Hid (((((w.alloc (.cells (vrow 266 s.at) 39)).alloc (.cells (vrow 3 fun _ => .int .i64 0) 50)).alloc (.cells (vrow 3 fun _ => .int .i64 0) 50))).heap[w.heap.size]? = some (.cells (vrow 266 s.at) 39)) := heap_past _ _ _ _ (by simp <;> omega) (heap_past _ _ _ _ (by simp <;> omega) (heap_at _ _ _ (by simp)))
  have Z : Hid (((((w.alloc (.cells (vrow 266 s.at) 39)).alloc (.cells (vrow 3 fun _ => .int .i64 0) 50)).alloc (.cells (vrow 3 fun _ => .int .i64 0) 50))).heap[w.heap.size + 1]? = some (.cells (vrow 3 (fun _ => .int .i64 0)) 50)) := heap_past _ _ _ _ (by simp <;> omega) (heap_at _ _ _ (by simp))
  have D : Hid (((((w.alloc (.cells (vrow 266 s.at) 39)).alloc (.cells (vrow 3 fun _ => .int .i64 0) 50)).alloc (.cells (vrow 3 fun _ => .int .i64 0) 50))).heap[w.heap.size + 2]? = some (.cells (vrow 3 (fun _ => .int .i64 0)) 50)) := heap_at _ _ _ (by simp)
  have hB : Hid (Below w.heap.size w ((((w.alloc (.cells (vrow 266 s.at) 39)).alloc (.cells (vrow 3 fun _ => .int .i64 0) 50)).alloc (.cells (vrow 3 fun _ => .int .i64 0) 50)))) := ((((Below.refl w.heap.size w).alloc (by simp <;> omega) _).alloc (by simp <;> omega) _).alloc (by simp <;> omega) _)
  refine (callsIn_wide (n := 9)).1 ?_
  refine callsIn_of_wp_marks Tryd.func64 rfl trivial ?_ rfl
  simp only [Tryd.ntmps64, List.size_toArray, List.length_cons, List.length_nil, Nat.reduceAdd, Nat.reduceSub, Array.replicate_succ, Array.replicate_zero, List.push_toArray, List.append_toArray, List.nil_append, List.cons_append]
  refine wpIn_wide.2 ?_
  go_wp2_with (first
    | go_skip
    | ((with_reducible refine wlAt 8 rfl ?_); refine wpList_load1 rfl 23 _ rfl (w.heap.size) 0 rfl 266 s.at _ _ Tryd.underlying23 rfl P.out (by omega) ?_; rw [Sh.at_0, ha]; simp only [Act.put, List.setIfInBounds_toArray, List.set_cons_succ, List.set_cons_zero])
    | ((with_reducible refine wlAt 10 rfl ?_); refine wpList_load1 rfl 23 _ rfl (w.heap.size) 1 rfl 266 s.at _ _ Tryd.underlying23 rfl P.out (by omega) ?_; rw [Sh.at_1, hc]; simp only [Act.put, List.setIfInBounds_toArray, List.set_cons_succ, List.set_cons_zero])
    | (go_at_call 95; refine (cells_any _ _ _).mono ?_; rintro e w2 ⟨rfl, rfl⟩))
  have hws : ((((w.alloc (.cells (vrow 266 s.at) 39)).alloc (.cells (vrow 3 fun _ => .int .i64 0) 50)).alloc (.cells (vrow 3 fun _ => .int .i64 0) 50))).heap.size = w.heap.size + 3 := by simp only [World.size_alloc]
  generalize hWn : ((((w.alloc (.cells (vrow 266 s.at) 39)).alloc (.cells (vrow 3 fun _ => .int .i64 0) 50)).alloc (.cells (vrow 3 fun _ => .int .i64 0) 50))) = Wn at hB P Z D hws ⊢
  clear hWn
  have c1 := heap_at (Wn.alloc (.cells #[.int .i8 a] 23)) (.cells #[.int .i8 c] 23) (Wn.heap.size + 1) (by simp)
  have c2 := heap_past (Wn.alloc (.cells #[.int .i8 a] 23)) (.cells #[.int .i8 c] 23) _ Wn.heap.size (by simp) (heap_at Wn (.cells #[.int .i8 a] 23) _ rfl)
  have hB1 : Below Wn.heap.size Wn ((Wn.alloc (.cells #[.int .i8 a] 23)).alloc (.cells #[.int .i8 c] 23)) := ((Below.refl _ _).alloc (Nat.le_refl _) _).alloc (by simp) _
  obtain ⟨W0, hW0⟩ : ∃ W0, (Wn.alloc (.cells #[.int .i8 a] 23)).alloc (.cells #[.int .i8 c] 23) = W0 := ⟨_, rfl⟩
  rw [hW0] at c1 c2 hB1 ⊢
  clear hW0
  rw [hws] at c1 c2
  try simp only [hws]
  replace P := row_next hB1 P.out; replace Z := row_next hB1 Z.out; replace D := row_next hB1 D.out; replace hB := below_next hB.out hB1
  rw [inkF_nil s] at D
  have hs0 := row_lt c1
  refine wp_cells (d := 4) (w.heap.size + 3 + 1) (w.heap.size + 3) a c ha8 hc8 rfl c1 c2
    (fun pre W => W.heap[w.heap.size]? = some (.cells (vrow 266 s.at) 39) ∧ W.heap[w.heap.size + 1]? = some (.cells (vrow 3 (fun _ => .int .i64 0)) 50) ∧ W.heap[w.heap.size + 2]? = some (.cells (vrow 3 (inkF s pre)) 50) ∧ Below w.heap.size w W)
    (fun _ _ _ => False)
    (OwnFrom.and (own_row (by omega)) (OwnFrom.and (own_row (by omega)) (OwnFrom.and (own_rowD (o := fun pre => .cells (vrow 3 (inkF s pre)) 50) (by omega)) (ownFrom_below (Nat.le_refl _) (by omega)))))
    (fun c => own_pure _)
    ⟨P, Z, D, hB⟩ ?assign ?body ?done ?stop
  case assign =>
    intro l x W K hK
    simp only [List.setIfInBounds_toArray, List.set_cons_succ, List.set_cons_zero] at hK ⊢
    have zs := zero_spot
    gi_wp2_with (refine wpListIn_storeall rfl 105 (.tmp 4) (.tmp 12) rfl _ rfl 2 (spAt 0 0) (spAt x.1.1 x.1.2) rfl 105 size_spot (heap_at _ _ _ rfl) (fun i _ => spAt_one _ _ i) ?_; rw [setRow_at _ _ _ _ _ rfl])
    exact hK
  case body =>
    rintro l pre ⟨⟨x, y⟩, hx, hy⟩ Wb W Bx hK hBx R hsz ⟨P, Z, D, hB⟩ hlen
    simp only [List.setIfInBounds_toArray, List.set_cons_succ, List.set_cons_zero] at R ⊢
    clear zz c1 c2 hB1
    have hpl : pre.length ≤ 64 := by
      have : a * c ≤ 8 * 8 := Nat.mul_le_mul (by omega) (by omega)
      omega
    replace hx : x < 8 := hx
    replace hy : y < 8 := hy
    obtain ⟨p, hp⟩ : ∃ p : Sp8, p = ⟨(x, y), hx, hy⟩ := ⟨_, rfl⟩
    have hap : ∀ i, psumL (s.ink i) (pre ++ [p]) = psumL (s.ink i) pre + s.dye (24 * y + 3 * x + i) := fun i => (psumL_app (s.ink i) pre p).trans (by
      rw [hp]
      show _ + s.dye (3 * (8 * y + x) + i) = _
      rw [show 3 * (8 * y + x) + i = 24 * y + 3 * x + i by omega])
    rw [← hp]
    rw [inkG_0 s pre p] at D
    clear hp
    replace R := Go.Lib.hid R; replace P := Go.Lib.hid P; replace Z := Go.Lib.hid Z; replace D := Go.Lib.hid D; replace hB := Go.Lib.hid hB; replace hK := Go.Lib.hid hK; replace hap := Go.Lib.hid hap
    gi_wp2
    (refine region_atI (by kernel_rfl) (by kernel_rfl) ?_; intro W hW; rw [hW] at hB hK P R Z D; clear hW; have P' := Go.Lib.hid (cls_row' P.out); have R' := Go.Lib.hid (cls_row' R.out); (repeat (first | go_big_quiet_skip | (refine wpQuiet_loadmid 27 _ rfl (by first | exact want_n rfl | exact want_g _ _ _ rfl rfl rfl) (w.heap.size) _ rfl 266 3 s.at _ rw_d3 size_d3 P'.out (by omega) ?_; rw [Sh.at_d3 _ _ (24 * y + 3 * x) (by omega) (by omega)]; simp only [Act.put, List.setIfInBounds_toArray, List.set_cons_succ, List.set_cons_zero]) | (refine wpQuiet_load1 23 _ rfl (by first | exact want_n rfl | exact want_g _ _ _ rfl rfl rfl) Bx _ rfl 2 (spAt x y) _ rw_i8 R'.out (by omega) ?_; (first | rw [spAt_0] | rw [spAt_1]); simp only [Act.put, List.setIfInBounds_toArray, List.set_cons_succ, List.set_cons_zero]) | go_big_quiet_step (fail))); refine wpQuiet_nil ?_; intro Wn hb; replace P := Go.Lib.hid (row_next hb P.out); replace R := Go.Lib.hid (row_next hb R.out); replace Z := Go.Lib.hid (row_next hb Z.out); replace D := Go.Lib.hid (row_next hb D.out); replace hB := Go.Lib.hid (below_next hB.out hb); replace hK := Go.Lib.hid (below_next hK.out hb); clear hb P' R')
    gi_wp2
    gi_loopw [21] (fun z wr => ∃ i : Nat, i ≤ 3 ∧ z = .int .i64 i ∧ KeepsFrom W0.heap.size Wb wr ∧ Kp2 (w.heap.size + 3 + 1) (w.heap.size + 3) Wb wr ∧ Below w.heap.size w wr ∧ wr.heap[w.heap.size]? = some (.cells (vrow 266 s.at) 39) ∧ wr.heap[w.heap.size + 1]? = some (.cells (vrow 3 (fun _ => .int .i64 0)) 50) ∧ wr.heap[w.heap.size + 2]? = some (.cells (vrow 3 (inkG s pre p i)) 50)) (fun z _ => 3 - (intOf z).toNat)
    case atStart => exact ⟨0, by omega, rfl, keeps_below hK.out, Kp2.of_lt hK.out (by omega) (by omega), hB.out, P.out, Z.out, D.out⟩
    case round =>
      clear hK hB P Z D R
      obtain ⟨i, hi, rfl, hk1, hk2, hB, P, Z, D⟩ := hrel
      replace hB := Go.Lib.hid hB; replace P := Go.Lib.hid P; replace Z := Go.Lib.hid Z; replace D := Go.Lib.hid D; replace hk1 := Go.Lib.hid hk1; replace hk2 := Go.Lib.hid hk2
      by_cases hli : i < 3
      · have hix := idx_d3 s x y i hli
        obtain ⟨g1, g2⟩ := hf.dye (24 * y + 3 * x + i) (by omega)
        obtain ⟨g3, g4⟩ := ink_bd s hf i hli pre
        have hzI : (i : Int) < 3 := by omega
        gi_wp2_with (first
          | ((with_reducible refine wlAtD 27 rfl ?_); refine wpListIn_load1 rfl 2 _ rfl (w.heap.size + 2) _ rfl 3 (inkG s pre p i) _ _ Tryd.underlying2 rfl D.out (by omega) ?_; rw [inkG_at]; simp only [Act.put, List.setIfInBounds_toArray, List.set_cons_succ, List.set_cons_zero])
          | ((with_reducible refine wlOpD (.store 2 (.tmp 31) (.tmp 30)) rfl ?_); refine wpListIn_store1 rfl 2 (.tmp 31) (.tmp 30) rfl (w.heap.size + 2) _ rfl 3 (inkG s pre p i) (.int .i64 (psumL (s.ink i) (pre ++ [p]))) (by rw [hap.out i]; rfl) 50 size_i64 D.out (by omega) rfl ?_; rw [inkG_step]; replace hk1 := Go.Lib.hid (hk1.out.trans (keeps_setRow D.out (vrow 3 (inkG s pre p (i + 1))))); replace hk2 := Go.Lib.hid (hk2.out.setRow (show w.heap.size + 3 + 1 ≠ w.heap.size + 2 by omega) (show w.heap.size + 3 ≠ w.heap.size + 2 by omega) (vrow 3 (inkG s pre p (i + 1)))); replace P := Go.Lib.hid (row_set' (show w.heap.size ≠ w.heap.size + 2 by omega) P.out (vrow 3 (inkG s pre p (i + 1)))); replace Z := Go.Lib.hid (row_set' (show w.heap.size + 1 ≠ w.heap.size + 2 by omega) Z.out (vrow 3 (inkG s pre p (i + 1)))); replace hB := Go.Lib.hid (Below_setRow hB.out (show w.heap.size ≤ w.heap.size + 2 by omega) (vrow 3 (inkG s pre p (i + 1)))); replace D := Go.Lib.hid (row_set D.out (vrow 3 (inkG s pre p (i + 1))))))
        go_roundw
        case rel => exact ⟨i + 1, by omega, by go_num, hk1.out, hk2.out, hB.out, P.out, Z.out, D.out⟩
        case measure => simp [intOf]; omega
      · obtain rfl : i = 3 := by omega
        rw [inkG_3] at D
        gi_wp2
        exact ⟨hk1.out, hk2.out, P.out, Z.out, D.out, hB.out⟩
  case done =>
    rintro DD W hDD ⟨P, Z, D, hB⟩ hd
    replace Z := Go.Lib.hid Z; replace hd := Go.Lib.hid hd; replace hB := Go.Lib.hid hB; replace P := Go.Lib.hid P; replace D := Go.Lib.hid D
    go_wp2_with (first
      | (with_reducible refine wlAt 33 rfl ?_; refine wpList_loadall rfl 50 (.tmp 3) rfl _ rfl 3 (inkF s (cellsL a c)) 50 _ Tryd.underlying50 rfl size_a3 D.out ?_)
      | ((with_reducible refine wlOp (.store 50 (.tmp 2) (.tmp 33)) rfl ?_); refine wpList_storeall rfl 50 (.tmp 2) (.tmp 33) rfl (w.heap.size + 1) rfl 3 (fun _ => .int .i64 0) (inkF s (cellsL a c)) rfl 50 size_a3 Z.out (fun i _ => rfl) ?_))
    have hlt := row_lt hd.out
    have Z' := row_set Z.out (vrow 3 (inkF s (cellsL a c)))
    refine leaveM rfl ((setRow_other _ _ DD _ (by omega)).trans hd.out) (res_rowD Tryd.results64 _ _ (w.heap.size + 1) 3 (inkF s (cellsL a c)) 50 _ Tryd.underlying50 rfl size_a3 rfl (row_put Z' (by omega))) ?_
    exact ⟨by rw [hq.out], below_put _ (Below_setRow hB.out (show w.heap.size ≤ w.heap.size + 1 by omega) _) (by omega) (by simp; omega)⟩
  case stop =>
    rintro D c pre W hD h hd
    exact h.elim
end Go.Proofs.YtfhfiaphdgfmnaaDoor
