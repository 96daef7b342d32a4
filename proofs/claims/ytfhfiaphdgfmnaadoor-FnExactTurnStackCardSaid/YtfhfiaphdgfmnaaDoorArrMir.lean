import Derived.Deep.RegionHeld3
import Derived.Test.YtfhfiaphdgfmnaaDoorMird
import Derived.Test.YtfhfiaphdgfmnaaDoorArrBase
import Derived.Test.YtfhfiaphdgfmnaaDoorWax2
namespace Go.Proofs.YtfhfiaphdgfmnaaDoor
open Go.RowKit
set_option maxRecDepth 100000
set_option linter.unusedVariables false
set_option linter.unusedSimpArgs false
set_option linter.unusedSimpArgs false
attribute [local go_sem] Oper.semAt_some
set_option maxRecDepth 100000 in
set_option maxHeartbeats 40000000 in
theorem arrMir (s : Sh) (b a c : Nat) (fx fy : Nat → Nat → Nat) (ha : a ≤ 8) (hc : c ≤ 8) (hfx : ∀ x y, x < a → y < c → fx x y < 8 ∧ fy x y < 8) (w : World) (hs : w.heap[b]? = some (.cells (vrow 266 s.at) 39))
    (hC : ∀ x y W, x < a → y < c → W.heap[b]? = some (.cells (vrow 266 s.at) 39) → Calls Tryd.prog 92 #[.agg s.row, .agg (vrow 2 (spAt x y))] W fun e w' => e = .returned (.agg (vrow 2 (spAt (fx x y) (fy x y)))) ∧ Below W.heap.size W w') : Calls Tryd.prog 91 #[.agg s.row, .int .i8 a, .int .i8 c, .func (.func 92) #[.agg s.row] #[]] w fun e w' => e = .returned (.agg (arrI s fx fy (plainSh a c) (pairsL a c)).row) ∧ Below w.heap.size w w' := by
  have zs := zero_spot
  have zz := zero_sheet
  have HC := Go.Lib.hid hC
  clear hC
  have hB : Hid (Below w.heap.size w ((((w.alloc (.cells (vrow 266 s.at) 39)).alloc (.cells #[.func (.func 92) #[.agg s.row] #[]] 126)).alloc (.cells (vrow 266 Sh.zero.at) 39)).alloc (.cells (vrow 266 (plainSh a c).at) 39))) := (((((Below.refl w.heap.size w).alloc (by simp <;> omega) _).alloc (by simp <;> omega) _).alloc (by simp <;> omega) _).alloc (by simp <;> omega) _)
  have P : Hid (((((w.alloc (.cells (vrow 266 s.at) 39)).alloc (.cells #[.func (.func 92) #[.agg s.row] #[]] 126)).alloc (.cells (vrow 266 Sh.zero.at) 39)).alloc (.cells (vrow 266 (plainSh a c).at) 39)).heap[(w.heap.size)]? = some (.cells (vrow 266 s.at) 39)) := heap_past _ _ _ _ (by first | omega | (simp <;> omega)) (heap_past _ _ _ _ (by first | omega | (simp <;> omega)) (heap_past _ _ _ _ (by first | omega | (simp <;> omega)) (heap_at _ _ _ (by simp))))
  have FN : Hid (((((w.alloc (.cells (vrow 266 s.at) 39)).alloc (.cells #[.func (.func 92) #[.agg s.row] #[]] 126)).alloc (.cells (vrow 266 Sh.zero.at) 39)).alloc (.cells (vrow 266 (plainSh a c).at) 39)).heap[(w.heap.size + 1)]? = some (.cells (vrow 1 (fun _ => .func (.func 92) #[.agg s.row] #[])) 126)) := heap_past _ _ _ _ (by first | omega | (simp <;> omega)) (heap_past _ _ _ _ (by first | omega | (simp <;> omega)) (heap_at _ _ _ (by simp)))
  have Z : Hid (((((w.alloc (.cells (vrow 266 s.at) 39)).alloc (.cells #[.func (.func 92) #[.agg s.row] #[]] 126)).alloc (.cells (vrow 266 Sh.zero.at) 39)).alloc (.cells (vrow 266 (plainSh a c).at) 39)).heap[(w.heap.size + 1 + 1)]? = some (.cells (vrow 266 Sh.zero.at) 39)) := heap_past _ _ _ _ (by first | omega | (simp <;> omega)) (heap_at _ _ _ (by simp))
  have M : Hid (((((w.alloc (.cells (vrow 266 s.at) 39)).alloc (.cells #[.func (.func 92) #[.agg s.row] #[]] 126)).alloc (.cells (vrow 266 Sh.zero.at) 39)).alloc (.cells (vrow 266 (plainSh a c).at) 39)).heap[(w.heap.size + 1 + 1 + 1)]? = some (.cells (vrow 266 (plainSh a c).at) 39)) := heap_at _ _ _ (by simp)
  have hbs := row_lt hs
  have S := Go.Lib.hid (heap_past _ (.cells (vrow 266 (plainSh a c).at) 39) _ _ (by simp <;> omega) (heap_past _ (.cells (vrow 266 Sh.zero.at) 39) _ _ (by simp <;> omega) (heap_past _ (.cells #[.func (.func 92) #[.agg s.row] #[]] 126) _ _ (by simp <;> omega) (heap_past _ (.cells (vrow 266 s.at) 39) _ _ hbs hs))))
  refine (callsIn_wide (n := 9)).1 ?_
  refine callsIn_of_wp_marks Tryd.func91 rfl trivial ?_ rfl
  simp only [Tryd.ntmps91, List.size_toArray, List.length_cons, List.length_nil, Nat.reduceAdd, Nat.reduceSub, Array.replicate_succ, Array.replicate_zero, List.push_toArray, List.append_toArray, List.nil_append, List.cons_append]
  refine wpIn_wide.2 ?_
  go_wp2_with (first
    | (refine wpList_built rfl 39 [(0, .tmp 12), (1, .tmp 13)] rfl [(0, .int .i8 a), (1, .int .i8 c)] (by rfl) _ (built_plain a c) ?_)
    | (refine wpList_storeall rfl 39 (.tmp 9) (.tmp 14) rfl _ rfl 266 Sh.zero.at (plainSh a c).at rfl 39 size_sheet (heap_at _ _ _ (by simp)) (fun i _ => Sh.one _ i) ?_; rw [setRow_at _ _ _ _ _ (by simp)])
    | (go_at_call 95; refine (cells_any _ _ _).mono ?_; rintro e w1 ⟨rfl, rfl⟩))
  generalize hWn : ((((w.alloc (.cells s.row 39)).alloc (.cells #[.func (.func 92) #[.agg s.row] #[]] 126)).alloc (.cells (vrow 266 Sh.zero.at) 39)).alloc (.cells (vrow 266 (plainSh a c).at) 39)) = Wn at hB P FN Z M S ⊢
  have hws : Wn.heap.size = w.heap.size + 1 + 1 + 1 + 1 := by rw [← hWn]; simp
  clear hWn
  have c1 := heap_at (Wn.alloc (.cells #[.int .i8 a] 23)) (.cells #[.int .i8 c] 23) (Wn.heap.size + 1) (by simp)
  have c2 := heap_past (Wn.alloc (.cells #[.int .i8 a] 23)) (.cells #[.int .i8 c] 23) _ Wn.heap.size (by simp) (heap_at Wn (.cells #[.int .i8 a] 23) _ rfl)
  have hB1 : Below Wn.heap.size Wn ((Wn.alloc (.cells #[.int .i8 a] 23)).alloc (.cells #[.int .i8 c] 23)) := ((Below.refl _ _).alloc (Nat.le_refl _) _).alloc (by simp) _
  obtain ⟨W0, hW0⟩ : ∃ W0, (Wn.alloc (.cells #[.int .i8 a] 23)).alloc (.cells #[.int .i8 c] 23) = W0 := ⟨_, rfl⟩
  rw [hW0] at c1 c2 hB1 ⊢
  clear hW0
  rw [hws] at c1 c2
  replace P := row_next hB1 P.out; replace FN := row_next hB1 FN.out; replace Z := row_next hB1 Z.out; replace M := row_next hB1 M.out; replace S := row_next hB1 S.out; replace hB := below_next hB.out hB1
  clear hB1 hws
  have hs0 := row_lt c1
  refine wp_cellsN (d := 10) (w.heap.size + 1 + 1 + 1 + 1 + 1) (w.heap.size + 1 + 1 + 1 + 1) a c ha hc rfl c1 c2
    (fun pre W => W.heap[w.heap.size]? = some (.cells (vrow 266 s.at) 39) ∧ W.heap[w.heap.size + 1]? = some (.cells (vrow 1 fun _ => .func (.func 92) #[.agg s.row] #[]) 126) ∧ W.heap[w.heap.size + 2]? = some (.cells (vrow 266 Sh.zero.at) 39) ∧ W.heap[w.heap.size + 3]? = some (.cells (vrow 266 (arrI s fx fy (plainSh a c) (pre.map (·.1))).at) 39) ∧ W.heap[b]? = some (.cells (vrow 266 s.at) 39) ∧ Below w.heap.size w W)
    (fun _ _ _ => False)
    (OwnFrom.and (own_row (by omega)) (OwnFrom.and (own_row (by omega)) (OwnFrom.and (own_row (by omega)) (OwnFrom.and (own_rowD (o := fun pre : List (SpN a c) => .cells (vrow 266 (arrI s fx fy (plainSh a c) (pre.map (·.1))).at) 39) (by omega)) (OwnFrom.and (own_row (by omega)) (ownFrom_below (Nat.le_refl _) (by omega)))))))
    (fun c => own_pure _)
    ⟨P, FN, Z, M, S, hB⟩ ?assign ?body ?done ?stop
  case assign =>
    intro l x W K hK
    simp only [List.setIfInBounds_toArray, List.set_cons_succ, List.set_cons_zero] at hK ⊢
    gi_wp2_with (refine wpListIn_storeall rfl 105 (.tmp 10) (.tmp 18) rfl _ rfl 2 (spAt 0 0) (spAt x.1.1 x.1.2) rfl 105 size_spot (heap_at _ _ _ rfl) (fun i _ => spAt_one _ _ i) ?_; rw [setRow_at _ _ _ _ _ rfl])
    exact hK
  case body =>
    rintro l pre ⟨⟨x, y⟩, hx, hy⟩ Wb W Bx hK hBx R hsz ⟨P, FN, Z, M, S, hB⟩ hlen
    simp only [List.setIfInBounds_toArray, List.set_cons_succ, List.set_cons_zero] at R ⊢
    replace hx : x < a := hx
    replace hy : y < c := hy
    obtain ⟨hu, hv⟩ := hfx x y hx hy
    have hx8 : x < 8 := by omega
    have hy8 : y < 8 := by omega
    have hap : arrI s fx fy (plainSh a c) ((pre ++ [(⟨(x, y), hx, hy⟩ : SpN a c)]).map (·.1)) = copyI s (arrI s fx fy (plainSh a c) (pre.map (·.1))) x y (fx x y) (fy x y) := by
      simp [arrI, List.foldl_append]
    generalize arrI s fx fy (plainSh a c) (pre.map (·.1)) = T at *
    have hcl := HC.out x y
    obtain ⟨u, eu⟩ : ∃ u, fx x y = u := ⟨_, rfl⟩
    obtain ⟨v, ev⟩ : ∃ v, fy x y = v := ⟨_, rfl⟩
    rw [eu] at hap hcl hu
    rw [ev] at hap hcl hv
    clear eu ev hfx
    have hcl := Go.Lib.hid hcl; have hap := Go.Lib.hid hap
    have hxI : (x : Int) < 8 := by omega
    have hyI : (y : Int) < 8 := by omega
    have huI : (u : Int) < 8 := by omega
    have hvI : (v : Int) < 8 := by omega
    have hszW := hB.size
    have hcb1 : W.heap.size ≤ W.heap.size := Nat.le_refl _
    have hrl := row_lt R
    have hmb := row_lt M
    have hMc := Go.Lib.hid ((hK.block (w.heap.size + 3) (by omega)).symm.trans M)
    have hG := Go.Lib.hid (grown_next (grown_refl Wb (some (w.heap.size + 3))) hK)
    replace R := Go.Lib.hid R; replace P := Go.Lib.hid P; replace FN := Go.Lib.hid FN; replace Z := Go.Lib.hid Z; replace M := Go.Lib.hid M; replace S := Go.Lib.hid S; replace hB := Go.Lib.hid hB
    obtain ⟨Wc, hWc⟩ : ∃ Wc : World, Wc = W := ⟨_, rfl⟩
    rw [← hWc] at R P FN Z M S hB ⊢
    have hG : Hid (Wb.grownBy Wc (some (w.heap.size + 3))) := by rw [hWc]; exact hG
    clear hWc
    gi_wp2_with (first
      | (refine loadoneIn rfl 126 (.tmp 7) rfl (w.heap.size + 1) 0 rfl 1 (fun _ => .func (.func 92) #[.agg s.row] #[]) 126 _ Tryd.underlying126 rfl FN.out (by omega) ?_)
      | (refine loadallIn rfl 105 (.tmp 10) rfl Bx rfl 2 (spAt x y) 105 _ Tryd.underlying105 rfl size_spot R.out ?_))
    refine ⟨trivial, ?_⟩
    refine (callsFW (ro := some _) (hcl.out _ hx hy S.out)).mono ?_
    rintro e w1 ⟨rfl, hb⟩
    replace R := Go.Lib.hid (row_next hb R.out)
    replace P := Go.Lib.hid (row_next hb P.out)
    replace FN := Go.Lib.hid (row_next hb FN.out)
    replace Z := Go.Lib.hid (row_next hb Z.out)
    replace M := Go.Lib.hid (row_next hb M.out)
    replace S := Go.Lib.hid (row_next hb S.out)
    replace hG := Go.Lib.hid (grown_next hG.out hb)
    replace hB := Go.Lib.hid (below_next hB.out hb)
    clear hb
    gi_wp2_with (first
      | (refine wpListIn_storeall rfl 105 (.tmp 11) (.tmp 21) rfl _ rfl 2 (spAt 0 0) (spAt u v) rfl 105 size_spot (heap_at _ _ _ rfl) (fun i _ => spAt_one _ _ i) ?_; rw [setRow_at _ _ _ _ _ rfl]; have hmw := hG.out.size; have WA := Go.Lib.hid (heap_at w1 (.cells (vrow 2 (spAt u v)) 105) _ rfl); replace R := Go.Lib.hid (heap_past _ (.cells (vrow 2 (spAt u v)) 105) _ _ (row_lt R.out) R.out); replace P := Go.Lib.hid (heap_past _ (.cells (vrow 2 (spAt u v)) 105) _ _ (row_lt P.out) P.out); replace FN := Go.Lib.hid (heap_past _ (.cells (vrow 2 (spAt u v)) 105) _ _ (row_lt FN.out) FN.out); replace Z := Go.Lib.hid (heap_past _ (.cells (vrow 2 (spAt u v)) 105) _ _ (row_lt Z.out) Z.out); replace M := Go.Lib.hid (heap_past _ (.cells (vrow 2 (spAt u v)) 105) _ _ (row_lt M.out) M.out); replace S := Go.Lib.hid (heap_past _ (.cells (vrow 2 (spAt u v)) 105) _ _ (row_lt S.out) S.out); replace hG := Go.Lib.hid (grown_alloc hG.out (.cells (vrow 2 (spAt u v)) 105)); replace hB := Go.Lib.hid (hB.out.alloc hB.out.size (.cells (vrow 2 (spAt u v)) 105)); generalize hbw : w1.heap.size = bw at WA ⊢; generalize w1.alloc _ = W1 at R P FN Z M S WA hG hB ⊢))
    have hbwB : w.heap.size + 4 ≤ bw ∧ bw < W1.heap.size := ⟨by rw [← hbw]; omega, row_lt WA.out⟩
    have hrB : Bx < W1.heap.size := row_lt R.out
    clear hbw
    refine region_tailI 15 (by kernel_rfl) (by kernel_rfl) (by kernel_rfl) ?_
    simp only [List.take_succ_cons, List.take_zero, List.drop_succ_cons, List.drop_zero, World.drew_eq]
    repeat (first
      | (refine wpStill_load1 rfl 23 (.tmp 22) rfl (Bx) (1) rfl 2 (spAt x y) _ _ Tryd.underlying23 rfl R.out (by omega) ?_; rw [spAt_1]; simp only [Act.put, List.setIfInBounds_toArray, List.set_cons_succ, List.set_cons_zero])
      | (refine wpStill_load1 rfl 23 (.tmp 24) rfl (Bx) (0) rfl 2 (spAt x y) _ _ Tryd.underlying23 rfl R.out (by omega) ?_; rw [spAt_0]; simp only [Act.put, List.setIfInBounds_toArray, List.set_cons_succ, List.set_cons_zero])
      | (refine wpStill_load1 rfl 23 (.tmp 26) rfl (bw) (1) rfl 2 (spAt u v) _ _ Tryd.underlying23 rfl WA.out (by omega) ?_; rw [spAt_1]; simp only [Act.put, List.setIfInBounds_toArray, List.set_cons_succ, List.set_cons_zero])
      | (refine wpStill_load1 rfl 23 (.tmp 28) rfl (bw) (0) rfl 2 (spAt u v) _ _ Tryd.underlying23 rfl WA.out (by omega) ?_; rw [spAt_0]; simp only [Act.put, List.setIfInBounds_toArray, List.set_cons_succ, List.set_cons_zero])
      | (refine wpStill_load1 rfl 23 (.tmp 37) rfl (Bx) (1) rfl 2 (spAt x y) _ _ Tryd.underlying23 rfl R.out (by omega) ?_; rw [spAt_1]; simp only [Act.put, List.setIfInBounds_toArray, List.set_cons_succ, List.set_cons_zero])
      | (refine wpStill_load1 rfl 23 (.tmp 39) rfl (Bx) (0) rfl 2 (spAt x y) _ _ Tryd.underlying23 rfl R.out (by omega) ?_; rw [spAt_0]; simp only [Act.put, List.setIfInBounds_toArray, List.set_cons_succ, List.set_cons_zero])
      | (refine wpStill_load1 rfl 23 (.tmp 41) rfl (bw) (1) rfl 2 (spAt u v) _ _ Tryd.underlying23 rfl WA.out (by omega) ?_; rw [spAt_1]; simp only [Act.put, List.setIfInBounds_toArray, List.set_cons_succ, List.set_cons_zero])
      | (refine wpStill_load1 rfl 23 (.tmp 43) rfl (bw) (0) rfl 2 (spAt u v) _ _ Tryd.underlying23 rfl WA.out (by omega) ?_; rw [spAt_0]; simp only [Act.put, List.setIfInBounds_toArray, List.set_cons_succ, List.set_cons_zero])
      | (refine wpStill_load1 rfl 24 (.tmp 32) rfl (w.heap.size) (2 + v * 8 + u) rfl 266 s.at _ _ Tryd.underlying24 rfl P.out (by omega) ?_; rw [Sh.at_wet1 _ _ (8 * v + u) (by omega) (by omega)]; simp only [Act.put, List.setIfInBounds_toArray, List.set_cons_succ, List.set_cons_zero])
      | (refine wpStill_loadmid rfl 27 (.tmp 47) rfl (w.heap.size) (66 + v * 24 + u * 3) rfl 266 3 s.at 39 _ Tryd.underlying27 rfl size_d3 P.out (by omega) ?_; rw [d3_row s _ (24 * v + 3 * u) (by omega) (by omega)]; simp only [Act.put, List.setIfInBounds_toArray, List.set_cons_succ, List.set_cons_zero])
      | still_step
      | (refine wpStill_step (fun K hK => ?_); go_simp; simp only [hxI, hyI, huI, hvI, if_true]; go_simp; refine hK _ ?_; clear hK K))
    refine wpStill_nil ?_
    refine wpList_store1 rfl 24 (.tmp 36) (.tmp 33) rfl (w.heap.size + 3) (2 + y * 8 + x) rfl 266 T.at (.int .i16 (s.wet (8 * v + u))) rfl 39 size_i16 M.out (by omega) rfl ?_
    rw [wet_at T _ (8 * y + x) (by omega) (by omega)]
    refine ⟨rfl, ?_⟩
    have M2 := row_set (w := W1.drew) M.out (vrow 266 (T.setWet (8 * y + x) (s.wet (8 * v + u))).at)
    have R2 := row_set' (w := W1.drew) (g := w.heap.size + 3) (by omega) R.out (vrow 266 (T.setWet (8 * y + x) (s.wet (8 * v + u))).at)
    have P2 := row_set' (w := W1.drew) (g := w.heap.size + 3) (by omega) P.out (vrow 266 (T.setWet (8 * y + x) (s.wet (8 * v + u))).at)
    have FN2 := row_set' (w := W1.drew) (g := w.heap.size + 3) (by omega) FN.out (vrow 266 (T.setWet (8 * y + x) (s.wet (8 * v + u))).at)
    have Z2 := row_set' (w := W1.drew) (g := w.heap.size + 3) (by omega) Z.out (vrow 266 (T.setWet (8 * y + x) (s.wet (8 * v + u))).at)
    have S2 := row_set' (w := W1.drew) (g := w.heap.size + 3) (by omega) S.out (vrow 266 (T.setWet (8 * y + x) (s.wet (8 * v + u))).at)
    have WA2 := row_set' (w := W1.drew) (g := w.heap.size + 3) (by omega) WA.out (vrow 266 (T.setWet (8 * y + x) (s.wet (8 * v + u))).at)
    have hB2 := Below_setRow hB.out.drew (show w.heap.size ≤ w.heap.size + 3 by omega) (vrow 266 (T.setWet (8 * y + x) (s.wet (8 * v + u))).at)
    have hG2 := grown_set (grown_drew hG.out) (vrow 266 (T.setWet (8 * y + x) (s.wet (8 * v + u))).at)
    have hszx := hB.out.size
    clear R P FN Z M S WA hB hG
    generalize World.setRow W1.drew _ _ = W2 at R2 P2 FN2 Z2 M2 S2 WA2 hB2 hG2 ⊢
    have R := Go.Lib.hid R2; have P := Go.Lib.hid P2; have FN := Go.Lib.hid FN2; have Z := Go.Lib.hid Z2; have M := Go.Lib.hid M2; have S := Go.Lib.hid S2; have WA := Go.Lib.hid WA2; have hB := Go.Lib.hid hB2; have hG := Go.Lib.hid hG2
    clear R2 P2 FN2 Z2 M2 S2 WA2 hB2 hG2
    gi_wp2
    refine region_tailI 15 (by kernel_rfl) (by kernel_rfl) (by kernel_rfl) ?_
    simp only [List.take_succ_cons, List.take_zero, List.drop_succ_cons, List.drop_zero, World.drew_eq]
    repeat (first
      | (refine wpStill_load1 rfl 23 (.tmp 22) rfl (Bx) (1) rfl 2 (spAt x y) _ _ Tryd.underlying23 rfl R.out (by omega) ?_; rw [spAt_1]; simp only [Act.put, List.setIfInBounds_toArray, List.set_cons_succ, List.set_cons_zero])
      | (refine wpStill_load1 rfl 23 (.tmp 24) rfl (Bx) (0) rfl 2 (spAt x y) _ _ Tryd.underlying23 rfl R.out (by omega) ?_; rw [spAt_0]; simp only [Act.put, List.setIfInBounds_toArray, List.set_cons_succ, List.set_cons_zero])
      | (refine wpStill_load1 rfl 23 (.tmp 26) rfl (bw) (1) rfl 2 (spAt u v) _ _ Tryd.underlying23 rfl WA.out (by omega) ?_; rw [spAt_1]; simp only [Act.put, List.setIfInBounds_toArray, List.set_cons_succ, List.set_cons_zero])
      | (refine wpStill_load1 rfl 23 (.tmp 28) rfl (bw) (0) rfl 2 (spAt u v) _ _ Tryd.underlying23 rfl WA.out (by omega) ?_; rw [spAt_0]; simp only [Act.put, List.setIfInBounds_toArray, List.set_cons_succ, List.set_cons_zero])
      | (refine wpStill_load1 rfl 23 (.tmp 37) rfl (Bx) (1) rfl 2 (spAt x y) _ _ Tryd.underlying23 rfl R.out (by omega) ?_; rw [spAt_1]; simp only [Act.put, List.setIfInBounds_toArray, List.set_cons_succ, List.set_cons_zero])
      | (refine wpStill_load1 rfl 23 (.tmp 39) rfl (Bx) (0) rfl 2 (spAt x y) _ _ Tryd.underlying23 rfl R.out (by omega) ?_; rw [spAt_0]; simp only [Act.put, List.setIfInBounds_toArray, List.set_cons_succ, List.set_cons_zero])
      | (refine wpStill_load1 rfl 23 (.tmp 41) rfl (bw) (1) rfl 2 (spAt u v) _ _ Tryd.underlying23 rfl WA.out (by omega) ?_; rw [spAt_1]; simp only [Act.put, List.setIfInBounds_toArray, List.set_cons_succ, List.set_cons_zero])
      | (refine wpStill_load1 rfl 23 (.tmp 43) rfl (bw) (0) rfl 2 (spAt u v) _ _ Tryd.underlying23 rfl WA.out (by omega) ?_; rw [spAt_0]; simp only [Act.put, List.setIfInBounds_toArray, List.set_cons_succ, List.set_cons_zero])
      | (refine wpStill_load1 rfl 24 (.tmp 32) rfl (w.heap.size) (2 + v * 8 + u) rfl 266 s.at _ _ Tryd.underlying24 rfl P.out (by omega) ?_; rw [Sh.at_wet1 _ _ (8 * v + u) (by omega) (by omega)]; simp only [Act.put, List.setIfInBounds_toArray, List.set_cons_succ, List.set_cons_zero])
      | (refine wpStill_loadmid rfl 27 (.tmp 47) rfl (w.heap.size) (66 + v * 24 + u * 3) rfl 266 3 s.at 39 _ Tryd.underlying27 rfl size_d3 P.out (by omega) ?_; rw [d3_row s _ (24 * v + 3 * u) (by omega) (by omega)]; simp only [Act.put, List.setIfInBounds_toArray, List.set_cons_succ, List.set_cons_zero])
      | still_step
      | (refine wpStill_step (fun K hK => ?_); go_simp; simp only [hxI, hyI, huI, hvI, if_true]; go_simp; refine hK _ ?_; clear hK K))
    refine wpStill_nil ?_
    refine wpList_storemid rfl 27 (.tmp 51) (.tmp 48) rfl (w.heap.size + 3) (66 + y * 24 + x * 3) rfl 266 3 (T.setWet (8 * y + x) (s.wet (8 * v + u))).at (fun i => .int .i16 (s.dye (24 * v + 3 * u + i))) rfl 39 size_d3 M.out (by omega) (fun i _ => rfl) ?_
    rw [dye3_at (T.setWet (8 * y + x) (s.wet (8 * v + u))) _ (24 * y + 3 * x) (by omega) (by omega)]
    refine ⟨rfl, ?_⟩
    have M2 := row_set (w := W2.drew) M.out (vrow 266 ((T.setWet (8 * y + x) (s.wet (8 * v + u))).setDye3 (24 * y + 3 * x) (fun i => s.dye (24 * v + 3 * u + i))).at)
    have R2 := row_set' (w := W2.drew) (g := w.heap.size + 3) (by omega) R.out (vrow 266 ((T.setWet (8 * y + x) (s.wet (8 * v + u))).setDye3 (24 * y + 3 * x) (fun i => s.dye (24 * v + 3 * u + i))).at)
    have P2 := row_set' (w := W2.drew) (g := w.heap.size + 3) (by omega) P.out (vrow 266 ((T.setWet (8 * y + x) (s.wet (8 * v + u))).setDye3 (24 * y + 3 * x) (fun i => s.dye (24 * v + 3 * u + i))).at)
    have FN2 := row_set' (w := W2.drew) (g := w.heap.size + 3) (by omega) FN.out (vrow 266 ((T.setWet (8 * y + x) (s.wet (8 * v + u))).setDye3 (24 * y + 3 * x) (fun i => s.dye (24 * v + 3 * u + i))).at)
    have Z2 := row_set' (w := W2.drew) (g := w.heap.size + 3) (by omega) Z.out (vrow 266 ((T.setWet (8 * y + x) (s.wet (8 * v + u))).setDye3 (24 * y + 3 * x) (fun i => s.dye (24 * v + 3 * u + i))).at)
    have S2 := row_set' (w := W2.drew) (g := w.heap.size + 3) (by omega) S.out (vrow 266 ((T.setWet (8 * y + x) (s.wet (8 * v + u))).setDye3 (24 * y + 3 * x) (fun i => s.dye (24 * v + 3 * u + i))).at)
    have WA2 := row_set' (w := W2.drew) (g := w.heap.size + 3) (by omega) WA.out (vrow 266 ((T.setWet (8 * y + x) (s.wet (8 * v + u))).setDye3 (24 * y + 3 * x) (fun i => s.dye (24 * v + 3 * u + i))).at)
    have hB2 := Below_setRow hB.out.drew (show w.heap.size ≤ w.heap.size + 3 by omega) (vrow 266 ((T.setWet (8 * y + x) (s.wet (8 * v + u))).setDye3 (24 * y + 3 * x) (fun i => s.dye (24 * v + 3 * u + i))).at)
    have hG2 := grown_set (grown_drew hG.out) (vrow 266 ((T.setWet (8 * y + x) (s.wet (8 * v + u))).setDye3 (24 * y + 3 * x) (fun i => s.dye (24 * v + 3 * u + i))).at)
    have hszx := hB.out.size
    clear R P FN Z M S WA hB hG
    generalize World.setRow W2.drew _ _ = W3 at R2 P2 FN2 Z2 M2 S2 WA2 hB2 hG2 ⊢
    have R := Go.Lib.hid R2; have P := Go.Lib.hid P2; have FN := Go.Lib.hid FN2; have Z := Go.Lib.hid Z2; have M := Go.Lib.hid M2; have S := Go.Lib.hid S2; have WA := Go.Lib.hid WA2; have hB := Go.Lib.hid hB2; have hG := Go.Lib.hid hG2
    clear R2 P2 FN2 Z2 M2 S2 WA2 hB2 hG2
    gi_wp2
    have hWX0 := fun w => waxed_any s u v hu hv w
    have hszM : w.heap.size + 3 < Wb.heap.size := row_lt hMc.out
    have VM0 := M.out
    cases hwb : waxB s u v
    · rw [hwb] at hWX0
      have HWX := Go.Lib.hid hWX0
      have HB := Go.Lib.hid (show (if waxB s u v then onB (T.wax y) x else offB (T.wax y) x) = offB (T.wax y) x by rw [hwb]; rfl)
      clear hWX0 hwb
      refine region_heldI (S := fun W' => Below w.heap.size w W' ∧ Wb.grownBy W' (some (w.heap.size + 3)) ∧ W'.heap[Bx]? = some (.cells (vrow 2 (spAt x y)) 105) ∧ W'.heap[bw]? = some (.cells (vrow 2 (spAt u v)) 105) ∧ W'.heap[w.heap.size]? = some (.cells (vrow 266 s.at) 39) ∧ W'.heap[w.heap.size + 1]? = some (.cells (vrow 1 fun _ => .func (.func 92) #[.agg s.row] #[]) 126) ∧ W'.heap[w.heap.size + 2]? = some (.cells (vrow 266 Sh.zero.at) 39) ∧ W'.heap[b]? = some (.cells (vrow 266 s.at) 39)) (by kernel_rfl) (by kernel_rfl) ⟨hB.out.drew, grown_drew hG.out, R.out, WA.out, P.out, FN.out, Z.out, S.out⟩ (fun hH => ?_)
      have VM : W3.drew.heap[w.heap.size + 3]? = some (.cells (vrow 266 ((T.setWet (8 * y + x) (s.wet (8 * v + u))).setDye3 (24 * y + 3 * x) (fun i => s.dye (24 * v + 3 * u + i))).at) 39) := VM0
      clear R P FN Z M S WA hB hG VM0
      generalize World.drew _ = W4 at hH VM ⊢
      refine wpAnyH_take (i := 0) (v := (.pointer (some ⟨Bx, 1, none⟩))) rfl (by kernel_rfl) (by kernel_rfl) (by kernel_rfl) (fun _ _ _ h => by cases h.1) (.inl ⟨by rfl, fun w _ => by go_simp⟩) hH ?_
      (try simp only [Act.put, List.setIfInBounds_toArray, List.set_cons_succ, List.set_cons_zero])
      refine wpAnyH_take (i := 1) (v := (.int .i8 y)) rfl (by kernel_rfl) (by kernel_rfl) (by kernel_rfl) (fun _ _ _ h => by cases h.1) (yields_one (by rfl) 23 _ rfl (Bx) 1 (by kernel_rfl) 2 (spAt x y) _ _ Tryd.underlying23 rfl (by omega) (fun _ h => h.2.2.1)) hH ?_
      (try simp only [Act.put, List.setIfInBounds_toArray, List.set_cons_succ, List.set_cons_zero])
      refine wpAnyH_take (i := 2) (v := (.pointer (some ⟨Bx, 1, none⟩))) rfl (by kernel_rfl) (by kernel_rfl) (by kernel_rfl) (fun _ _ _ h => by cases h.1) (.inl ⟨by rfl, fun w _ => by go_simp⟩) hH ?_
      (try simp only [Act.put, List.setIfInBounds_toArray, List.set_cons_succ, List.set_cons_zero])
      refine wpAnyH_take (i := 3) (v := (.int .i8 y)) rfl (by kernel_rfl) (by kernel_rfl) (by kernel_rfl) (fun _ _ _ h => by cases h.1) (yields_one (by rfl) 23 _ rfl (Bx) 1 (by kernel_rfl) 2 (spAt x y) _ _ Tryd.underlying23 rfl (by omega) (fun _ h => h.2.2.1)) hH ?_
      (try simp only [Act.put, List.setIfInBounds_toArray, List.set_cons_succ, List.set_cons_zero])
      refine wpAnyH_take (i := 4) (v := (.pointer (some ⟨w.heap.size + 1 + 1 + 1, 258, none⟩))) rfl (by kernel_rfl) (by kernel_rfl) (by kernel_rfl) (fun _ _ _ h => by cases h.1) (.inl ⟨by rfl, fun w _ => by go_simp⟩) hH ?_
      (try simp only [Act.put, List.setIfInBounds_toArray, List.set_cons_succ, List.set_cons_zero])
      refine wpAnyH_take (i := 5) (v := (.pointer (some ⟨w.heap.size + 1 + 1 + 1, 258 + y, none⟩))) rfl (by kernel_rfl) (by kernel_rfl) (by kernel_rfl) (fun _ _ _ h => by cases h.1) (.inl ⟨by rfl, fun w _ => by go_simp⟩) hH ?_
      (try simp only [Act.put, List.setIfInBounds_toArray, List.set_cons_succ, List.set_cons_zero])
      refine wpAnyH_take (i := 7) (v := (.pointer (some ⟨Bx, 0, none⟩))) rfl (by kernel_rfl) (by kernel_rfl) (by kernel_rfl) (fun _ _ _ h => by cases h.1) (.inl ⟨by rfl, fun w _ => by go_simp⟩) hH ?_
      (try simp only [Act.put, List.setIfInBounds_toArray, List.set_cons_succ, List.set_cons_zero])
      refine wpAnyH_take (i := 8) (v := (.int .i8 x)) rfl (by kernel_rfl) (by kernel_rfl) (by kernel_rfl) (fun _ _ _ h => by cases h.1) (yields_one (by rfl) 23 _ rfl (Bx) 0 (by kernel_rfl) 2 (spAt x y) _ _ Tryd.underlying23 rfl (by omega) (fun _ h => h.2.2.1)) hH ?_
      (try simp only [Act.put, List.setIfInBounds_toArray, List.set_cons_succ, List.set_cons_zero])
      refine wpAnyH_take (i := 9) (v := (.agg (vrow 266 s.at))) rfl (by kernel_rfl) (by kernel_rfl) (by kernel_rfl) (fun _ _ _ h => by cases h.1) (yields_row (by rfl) 39 _ rfl (w.heap.size) (by kernel_rfl) 266 s.at 39 _ Tryd.underlying39 rfl size_sheet (fun _ h => h.2.2.2.2.1)) hH ?_
      (try simp only [Act.put, List.setIfInBounds_toArray, List.set_cons_succ, List.set_cons_zero])
      refine wpAnyH_take (i := 10) (v := (.agg (vrow 2 (spAt u v)))) rfl (by kernel_rfl) (by kernel_rfl) (by kernel_rfl) (fun _ _ _ h => by cases h.1) (yields_row (by rfl) 105 _ rfl (bw) (by kernel_rfl) 2 (spAt u v) 105 _ Tryd.underlying105 rfl size_spot (fun _ h => h.2.2.2.1)) hH ?_
      (try simp only [Act.put, List.setIfInBounds_toArray, List.set_cons_succ, List.set_cons_zero])
      refine wpAnyH_take (i := 13) (v := (.pointer (some ⟨w.heap.size + 1 + 1 + 1, 258, none⟩))) rfl (by kernel_rfl) (by kernel_rfl) (by kernel_rfl) (fun _ _ _ h => by cases h.1) (.inl ⟨by rfl, fun w _ => by go_simp⟩) hH ?_
      (try simp only [Act.put, List.setIfInBounds_toArray, List.set_cons_succ, List.set_cons_zero])
      refine wpAnyH_ready (rs := [6, 11]) (by kernel_rfl) (by simp) (AllReadyH.cons rfl (fun K hK => ?_) (AllReadyH.cons rfl (fun K hK => ?_) AllReadyH.nil))
      · rw [if_pos (by rfl)]
        unfold Oper.wp
        rw [run_ld1 5 (.tmp 57) rfl (w.heap.size + 3) (258 + y) (by kernel_rfl) 266 ((T.setWet (8 * y + x) (s.wet (8 * v + u))).setDye3 (24 * y + 3 * x) (fun i => s.dye (24 * v + 3 * u + i))).at 39 _ Tryd.underlying5 rfl VM (by omega)]
        rw [Sh.at_wax1 _ _ (by omega)]
        refine hK.out _ _ hH (fun hH => ?_)
        clear hK K
        (try simp only [Act.put, List.setIfInBounds_toArray, List.set_cons_succ, List.set_cons_zero])
        refine wpAnyH_ready (rs := [11]) (by kernel_rfl) (by simp) (AllReadyH.cons rfl (fun K hK => ?_) AllReadyH.nil)
        rw [if_pos (by rfl)]
        go_simp
        go_at_call 110
        refine (HWX.out _).mono ?_
        rintro o X1 ⟨rfl, hb⟩
        replace hH : Below w.heap.size w X1 ∧ Wb.grownBy X1 (some (w.heap.size + 3)) ∧ X1.heap[Bx]? = some (.cells (vrow 2 (spAt x y)) 105) ∧ X1.heap[bw]? = some (.cells (vrow 2 (spAt u v)) 105) ∧ X1.heap[w.heap.size]? = some (.cells (vrow 266 s.at) 39) ∧ X1.heap[w.heap.size + 1]? = some (.cells (vrow 1 fun _ => .func (.func 92) #[.agg s.row] #[]) 126) ∧ X1.heap[w.heap.size + 2]? = some (.cells (vrow 266 Sh.zero.at) 39) ∧ X1.heap[b]? = some (.cells (vrow 266 s.at) 39) := ⟨hH.1.trans (hb.mono hH.1.size), grown_next hH.2.1 hb, row_next hb hH.2.2.1, row_next hb hH.2.2.2.1, row_next hb hH.2.2.2.2.1, row_next hb hH.2.2.2.2.2.1, row_next hb hH.2.2.2.2.2.2.1, row_next hb hH.2.2.2.2.2.2.2⟩
        replace VM := row_next hb VM
        clear hb
        refine hK.out _ _ hH (fun hH => ?_)
        clear hK K
        (try simp only [Act.put, List.setIfInBounds_toArray, List.set_cons_succ, List.set_cons_zero])
        refine wpAnyH_ready (rs := [12]) (by kernel_rfl) (by simp) (AllReadyH.cons rfl (fun K hK => ?_) AllReadyH.nil)
        rw [if_pos (by rfl)]
        go_simp
        go_at_call 109
        refine (withWax_off' (T.wax y) x hx8 _).mono ?_
        rintro o X9 ⟨rfl, e9⟩
        rw [e9]
        clear e9
        refine hK.out _ _ hH (fun hH => ?_)
        clear hK K
        (try simp only [Act.put, List.setIfInBounds_toArray, List.set_cons_succ, List.set_cons_zero])
        refine wpAnyH_take (i := 14) (v := (.pointer (some ⟨w.heap.size + 1 + 1 + 1, 258 + y, none⟩))) rfl (by kernel_rfl) (by kernel_rfl) (by kernel_rfl) (fun _ _ _ h => by cases h.1) (.inl ⟨by rfl, fun w _ => by go_simp⟩) hH ?_
        (try simp only [Act.put, List.setIfInBounds_toArray, List.set_cons_succ, List.set_cons_zero])
        refine wpAnyH_ready (rs := [15]) (by kernel_rfl) (by simp) (AllReadyH.cons rfl (fun K hK => ?_) AllReadyH.nil)
        rw [if_pos (by rfl)]
        unfold Oper.wp
        rw [run_store1 5 (.tmp 66) (.tmp 64) rfl (w.heap.size + 3) (258 + y) (by kernel_rfl) 266 ((T.setWet (8 * y + x) (s.wet (8 * v + u))).setDye3 (24 * y + 3 * x) (fun i => s.dye (24 * v + 3 * u + i))).at (.int .u8 (offB (T.wax y) x)) (by kernel_rfl) 39 size_u8 VM (by omega) rfl, Oper.upon_skip]
        rw [wax_at _ y hy8]
        have V2 := row_set VM (vrow 266 (((T.setWet (8 * y + x) (s.wet (8 * v + u))).setDye3 (24 * y + 3 * x) (fun i => s.dye (24 * v + 3 * u + i))).setWax y (offB (T.wax y) x)).at)
        have hH2 : Below w.heap.size w (X1.setRow (w.heap.size + 3) (vrow 266 (((T.setWet (8 * y + x) (s.wet (8 * v + u))).setDye3 (24 * y + 3 * x) (fun i => s.dye (24 * v + 3 * u + i))).setWax y (offB (T.wax y) x)).at)) ∧ Wb.grownBy (X1.setRow (w.heap.size + 3) (vrow 266 (((T.setWet (8 * y + x) (s.wet (8 * v + u))).setDye3 (24 * y + 3 * x) (fun i => s.dye (24 * v + 3 * u + i))).setWax y (offB (T.wax y) x)).at)) (some (w.heap.size + 3)) ∧ (X1.setRow (w.heap.size + 3) (vrow 266 (((T.setWet (8 * y + x) (s.wet (8 * v + u))).setDye3 (24 * y + 3 * x) (fun i => s.dye (24 * v + 3 * u + i))).setWax y (offB (T.wax y) x)).at)).heap[Bx]? = some (.cells (vrow 2 (spAt x y)) 105) ∧ (X1.setRow (w.heap.size + 3) (vrow 266 (((T.setWet (8 * y + x) (s.wet (8 * v + u))).setDye3 (24 * y + 3 * x) (fun i => s.dye (24 * v + 3 * u + i))).setWax y (offB (T.wax y) x)).at)).heap[bw]? = some (.cells (vrow 2 (spAt u v)) 105) ∧ (X1.setRow (w.heap.size + 3) (vrow 266 (((T.setWet (8 * y + x) (s.wet (8 * v + u))).setDye3 (24 * y + 3 * x) (fun i => s.dye (24 * v + 3 * u + i))).setWax y (offB (T.wax y) x)).at)).heap[w.heap.size]? = some (.cells (vrow 266 s.at) 39) ∧ (X1.setRow (w.heap.size + 3) (vrow 266 (((T.setWet (8 * y + x) (s.wet (8 * v + u))).setDye3 (24 * y + 3 * x) (fun i => s.dye (24 * v + 3 * u + i))).setWax y (offB (T.wax y) x)).at)).heap[w.heap.size + 1]? = some (.cells (vrow 1 fun _ => .func (.func 92) #[.agg s.row] #[]) 126) ∧ (X1.setRow (w.heap.size + 3) (vrow 266 (((T.setWet (8 * y + x) (s.wet (8 * v + u))).setDye3 (24 * y + 3 * x) (fun i => s.dye (24 * v + 3 * u + i))).setWax y (offB (T.wax y) x)).at)).heap[w.heap.size + 2]? = some (.cells (vrow 266 Sh.zero.at) 39) ∧ (X1.setRow (w.heap.size + 3) (vrow 266 (((T.setWet (8 * y + x) (s.wet (8 * v + u))).setDye3 (24 * y + 3 * x) (fun i => s.dye (24 * v + 3 * u + i))).setWax y (offB (T.wax y) x)).at)).heap[b]? = some (.cells (vrow 266 s.at) 39) := ⟨Below_setRow hH.1 (by omega) _, grown_set hH.2.1 _, row_set' (by omega) hH.2.2.1 _, row_set' (by omega) hH.2.2.2.1 _, row_set' (by omega) hH.2.2.2.2.1 _, row_set' (by omega) hH.2.2.2.2.2.1 _, row_set' (by omega) hH.2.2.2.2.2.2.1 _, row_set' (by omega) hH.2.2.2.2.2.2.2 _⟩
        clear VM
        generalize World.setRow X1 _ _ = WS at V2 hH2 ⊢
        refine hK.out _ _ hH2 (fun hH => ?_)
        clear hK K hH2
        (try simp only [Act.put, List.setIfInBounds_toArray, List.set_cons_succ, List.set_cons_zero])
        refine wpAnyH_done (by kernel_rfl) ?_ _
        refine ⟨rfl, ?_⟩
        refine ⟨keeps_grown hMc.out hH.2.1, kp2_grown hH.2.1 (by omega) (by omega) (by omega) (by omega), hH.2.2.2.2.1, hH.2.2.2.2.2.1, hH.2.2.2.2.2.2.1, ?_, hH.2.2.2.2.2.2.2, hH.1⟩
        rw [hap.out, copyI, HB.out]
        exact V2
      · rw [if_pos (by rfl)]
        go_simp
        go_at_call 110
        refine (HWX.out _).mono ?_
        rintro o X2 ⟨rfl, hb⟩
        replace hH : Below w.heap.size w X2 ∧ Wb.grownBy X2 (some (w.heap.size + 3)) ∧ X2.heap[Bx]? = some (.cells (vrow 2 (spAt x y)) 105) ∧ X2.heap[bw]? = some (.cells (vrow 2 (spAt u v)) 105) ∧ X2.heap[w.heap.size]? = some (.cells (vrow 266 s.at) 39) ∧ X2.heap[w.heap.size + 1]? = some (.cells (vrow 1 fun _ => .func (.func 92) #[.agg s.row] #[]) 126) ∧ X2.heap[w.heap.size + 2]? = some (.cells (vrow 266 Sh.zero.at) 39) ∧ X2.heap[b]? = some (.cells (vrow 266 s.at) 39) := ⟨hH.1.trans (hb.mono hH.1.size), grown_next hH.2.1 hb, row_next hb hH.2.2.1, row_next hb hH.2.2.2.1, row_next hb hH.2.2.2.2.1, row_next hb hH.2.2.2.2.2.1, row_next hb hH.2.2.2.2.2.2.1, row_next hb hH.2.2.2.2.2.2.2⟩
        replace VM := row_next hb VM
        clear hb
        refine hK.out _ _ hH (fun hH => ?_)
        clear hK K
        (try simp only [Act.put, List.setIfInBounds_toArray, List.set_cons_succ, List.set_cons_zero])
        refine wpAnyH_ready (rs := [6]) (by kernel_rfl) (by simp) (AllReadyH.cons rfl (fun K hK => ?_) AllReadyH.nil)
        rw [if_pos (by rfl)]
        unfold Oper.wp
        rw [run_ld1 5 (.tmp 57) rfl (w.heap.size + 3) (258 + y) (by kernel_rfl) 266 ((T.setWet (8 * y + x) (s.wet (8 * v + u))).setDye3 (24 * y + 3 * x) (fun i => s.dye (24 * v + 3 * u + i))).at 39 _ Tryd.underlying5 rfl VM (by omega)]
        rw [Sh.at_wax1 _ _ (by omega)]
        refine hK.out _ _ hH (fun hH => ?_)
        clear hK K
        (try simp only [Act.put, List.setIfInBounds_toArray, List.set_cons_succ, List.set_cons_zero])
        refine wpAnyH_ready (rs := [12]) (by kernel_rfl) (by simp) (AllReadyH.cons rfl (fun K hK => ?_) AllReadyH.nil)
        rw [if_pos (by rfl)]
        go_simp
        go_at_call 109
        refine (withWax_off' (T.wax y) x hx8 _).mono ?_
        rintro o X9 ⟨rfl, e9⟩
        rw [e9]
        clear e9
        refine hK.out _ _ hH (fun hH => ?_)
        clear hK K
        (try simp only [Act.put, List.setIfInBounds_toArray, List.set_cons_succ, List.set_cons_zero])
        refine wpAnyH_take (i := 14) (v := (.pointer (some ⟨w.heap.size + 1 + 1 + 1, 258 + y, none⟩))) rfl (by kernel_rfl) (by kernel_rfl) (by kernel_rfl) (fun _ _ _ h => by cases h.1) (.inl ⟨by rfl, fun w _ => by go_simp⟩) hH ?_
        (try simp only [Act.put, List.setIfInBounds_toArray, List.set_cons_succ, List.set_cons_zero])
        refine wpAnyH_ready (rs := [15]) (by kernel_rfl) (by simp) (AllReadyH.cons rfl (fun K hK => ?_) AllReadyH.nil)
        rw [if_pos (by rfl)]
        unfold Oper.wp
        rw [run_store1 5 (.tmp 66) (.tmp 64) rfl (w.heap.size + 3) (258 + y) (by kernel_rfl) 266 ((T.setWet (8 * y + x) (s.wet (8 * v + u))).setDye3 (24 * y + 3 * x) (fun i => s.dye (24 * v + 3 * u + i))).at (.int .u8 (offB (T.wax y) x)) (by kernel_rfl) 39 size_u8 VM (by omega) rfl, Oper.upon_skip]
        rw [wax_at _ y hy8]
        have V2 := row_set VM (vrow 266 (((T.setWet (8 * y + x) (s.wet (8 * v + u))).setDye3 (24 * y + 3 * x) (fun i => s.dye (24 * v + 3 * u + i))).setWax y (offB (T.wax y) x)).at)
        have hH2 : Below w.heap.size w (X2.setRow (w.heap.size + 3) (vrow 266 (((T.setWet (8 * y + x) (s.wet (8 * v + u))).setDye3 (24 * y + 3 * x) (fun i => s.dye (24 * v + 3 * u + i))).setWax y (offB (T.wax y) x)).at)) ∧ Wb.grownBy (X2.setRow (w.heap.size + 3) (vrow 266 (((T.setWet (8 * y + x) (s.wet (8 * v + u))).setDye3 (24 * y + 3 * x) (fun i => s.dye (24 * v + 3 * u + i))).setWax y (offB (T.wax y) x)).at)) (some (w.heap.size + 3)) ∧ (X2.setRow (w.heap.size + 3) (vrow 266 (((T.setWet (8 * y + x) (s.wet (8 * v + u))).setDye3 (24 * y + 3 * x) (fun i => s.dye (24 * v + 3 * u + i))).setWax y (offB (T.wax y) x)).at)).heap[Bx]? = some (.cells (vrow 2 (spAt x y)) 105) ∧ (X2.setRow (w.heap.size + 3) (vrow 266 (((T.setWet (8 * y + x) (s.wet (8 * v + u))).setDye3 (24 * y + 3 * x) (fun i => s.dye (24 * v + 3 * u + i))).setWax y (offB (T.wax y) x)).at)).heap[bw]? = some (.cells (vrow 2 (spAt u v)) 105) ∧ (X2.setRow (w.heap.size + 3) (vrow 266 (((T.setWet (8 * y + x) (s.wet (8 * v + u))).setDye3 (24 * y + 3 * x) (fun i => s.dye (24 * v + 3 * u + i))).setWax y (offB (T.wax y) x)).at)).heap[w.heap.size]? = some (.cells (vrow 266 s.at) 39) ∧ (X2.setRow (w.heap.size + 3) (vrow 266 (((T.setWet (8 * y + x) (s.wet (8 * v + u))).setDye3 (24 * y + 3 * x) (fun i => s.dye (24 * v + 3 * u + i))).setWax y (offB (T.wax y) x)).at)).heap[w.heap.size + 1]? = some (.cells (vrow 1 fun _ => .func (.func 92) #[.agg s.row] #[]) 126) ∧ (X2.setRow (w.heap.size + 3) (vrow 266 (((T.setWet (8 * y + x) (s.wet (8 * v + u))).setDye3 (24 * y + 3 * x) (fun i => s.dye (24 * v + 3 * u + i))).setWax y (offB (T.wax y) x)).at)).heap[w.heap.size + 2]? = some (.cells (vrow 266 Sh.zero.at) 39) ∧ (X2.setRow (w.heap.size + 3) (vrow 266 (((T.setWet (8 * y + x) (s.wet (8 * v + u))).setDye3 (24 * y + 3 * x) (fun i => s.dye (24 * v + 3 * u + i))).setWax y (offB (T.wax y) x)).at)).heap[b]? = some (.cells (vrow 266 s.at) 39) := ⟨Below_setRow hH.1 (by omega) _, grown_set hH.2.1 _, row_set' (by omega) hH.2.2.1 _, row_set' (by omega) hH.2.2.2.1 _, row_set' (by omega) hH.2.2.2.2.1 _, row_set' (by omega) hH.2.2.2.2.2.1 _, row_set' (by omega) hH.2.2.2.2.2.2.1 _, row_set' (by omega) hH.2.2.2.2.2.2.2 _⟩
        clear VM
        generalize World.setRow X2 _ _ = WS at V2 hH2 ⊢
        refine hK.out _ _ hH2 (fun hH => ?_)
        clear hK K hH2
        (try simp only [Act.put, List.setIfInBounds_toArray, List.set_cons_succ, List.set_cons_zero])
        refine wpAnyH_done (by kernel_rfl) ?_ _
        refine ⟨rfl, ?_⟩
        refine ⟨keeps_grown hMc.out hH.2.1, kp2_grown hH.2.1 (by omega) (by omega) (by omega) (by omega), hH.2.2.2.2.1, hH.2.2.2.2.2.1, hH.2.2.2.2.2.2.1, ?_, hH.2.2.2.2.2.2.2, hH.1⟩
        rw [hap.out, copyI, HB.out]
        exact V2
    · rw [hwb] at hWX0
      have HWX := Go.Lib.hid hWX0
      have HB := Go.Lib.hid (show (if waxB s u v then onB (T.wax y) x else offB (T.wax y) x) = onB (T.wax y) x by rw [hwb]; rfl)
      clear hWX0 hwb
      refine region_heldI (S := fun W' => Below w.heap.size w W' ∧ Wb.grownBy W' (some (w.heap.size + 3)) ∧ W'.heap[Bx]? = some (.cells (vrow 2 (spAt x y)) 105) ∧ W'.heap[bw]? = some (.cells (vrow 2 (spAt u v)) 105) ∧ W'.heap[w.heap.size]? = some (.cells (vrow 266 s.at) 39) ∧ W'.heap[w.heap.size + 1]? = some (.cells (vrow 1 fun _ => .func (.func 92) #[.agg s.row] #[]) 126) ∧ W'.heap[w.heap.size + 2]? = some (.cells (vrow 266 Sh.zero.at) 39) ∧ W'.heap[b]? = some (.cells (vrow 266 s.at) 39)) (by kernel_rfl) (by kernel_rfl) ⟨hB.out.drew, grown_drew hG.out, R.out, WA.out, P.out, FN.out, Z.out, S.out⟩ (fun hH => ?_)
      have VM : W3.drew.heap[w.heap.size + 3]? = some (.cells (vrow 266 ((T.setWet (8 * y + x) (s.wet (8 * v + u))).setDye3 (24 * y + 3 * x) (fun i => s.dye (24 * v + 3 * u + i))).at) 39) := VM0
      clear R P FN Z M S WA hB hG VM0
      generalize World.drew _ = W4 at hH VM ⊢
      refine wpAnyH_take (i := 0) (v := (.pointer (some ⟨Bx, 1, none⟩))) rfl (by kernel_rfl) (by kernel_rfl) (by kernel_rfl) (fun _ _ _ h => by cases h.1) (.inl ⟨by rfl, fun w _ => by go_simp⟩) hH ?_
      (try simp only [Act.put, List.setIfInBounds_toArray, List.set_cons_succ, List.set_cons_zero])
      refine wpAnyH_take (i := 1) (v := (.int .i8 y)) rfl (by kernel_rfl) (by kernel_rfl) (by kernel_rfl) (fun _ _ _ h => by cases h.1) (yields_one (by rfl) 23 _ rfl (Bx) 1 (by kernel_rfl) 2 (spAt x y) _ _ Tryd.underlying23 rfl (by omega) (fun _ h => h.2.2.1)) hH ?_
      (try simp only [Act.put, List.setIfInBounds_toArray, List.set_cons_succ, List.set_cons_zero])
      refine wpAnyH_take (i := 2) (v := (.pointer (some ⟨Bx, 1, none⟩))) rfl (by kernel_rfl) (by kernel_rfl) (by kernel_rfl) (fun _ _ _ h => by cases h.1) (.inl ⟨by rfl, fun w _ => by go_simp⟩) hH ?_
      (try simp only [Act.put, List.setIfInBounds_toArray, List.set_cons_succ, List.set_cons_zero])
      refine wpAnyH_take (i := 3) (v := (.int .i8 y)) rfl (by kernel_rfl) (by kernel_rfl) (by kernel_rfl) (fun _ _ _ h => by cases h.1) (yields_one (by rfl) 23 _ rfl (Bx) 1 (by kernel_rfl) 2 (spAt x y) _ _ Tryd.underlying23 rfl (by omega) (fun _ h => h.2.2.1)) hH ?_
      (try simp only [Act.put, List.setIfInBounds_toArray, List.set_cons_succ, List.set_cons_zero])
      refine wpAnyH_take (i := 4) (v := (.pointer (some ⟨w.heap.size + 1 + 1 + 1, 258, none⟩))) rfl (by kernel_rfl) (by kernel_rfl) (by kernel_rfl) (fun _ _ _ h => by cases h.1) (.inl ⟨by rfl, fun w _ => by go_simp⟩) hH ?_
      (try simp only [Act.put, List.setIfInBounds_toArray, List.set_cons_succ, List.set_cons_zero])
      refine wpAnyH_take (i := 5) (v := (.pointer (some ⟨w.heap.size + 1 + 1 + 1, 258 + y, none⟩))) rfl (by kernel_rfl) (by kernel_rfl) (by kernel_rfl) (fun _ _ _ h => by cases h.1) (.inl ⟨by rfl, fun w _ => by go_simp⟩) hH ?_
      (try simp only [Act.put, List.setIfInBounds_toArray, List.set_cons_succ, List.set_cons_zero])
      refine wpAnyH_take (i := 7) (v := (.pointer (some ⟨Bx, 0, none⟩))) rfl (by kernel_rfl) (by kernel_rfl) (by kernel_rfl) (fun _ _ _ h => by cases h.1) (.inl ⟨by rfl, fun w _ => by go_simp⟩) hH ?_
      (try simp only [Act.put, List.setIfInBounds_toArray, List.set_cons_succ, List.set_cons_zero])
      refine wpAnyH_take (i := 8) (v := (.int .i8 x)) rfl (by kernel_rfl) (by kernel_rfl) (by kernel_rfl) (fun _ _ _ h => by cases h.1) (yields_one (by rfl) 23 _ rfl (Bx) 0 (by kernel_rfl) 2 (spAt x y) _ _ Tryd.underlying23 rfl (by omega) (fun _ h => h.2.2.1)) hH ?_
      (try simp only [Act.put, List.setIfInBounds_toArray, List.set_cons_succ, List.set_cons_zero])
      refine wpAnyH_take (i := 9) (v := (.agg (vrow 266 s.at))) rfl (by kernel_rfl) (by kernel_rfl) (by kernel_rfl) (fun _ _ _ h => by cases h.1) (yields_row (by rfl) 39 _ rfl (w.heap.size) (by kernel_rfl) 266 s.at 39 _ Tryd.underlying39 rfl size_sheet (fun _ h => h.2.2.2.2.1)) hH ?_
      (try simp only [Act.put, List.setIfInBounds_toArray, List.set_cons_succ, List.set_cons_zero])
      refine wpAnyH_take (i := 10) (v := (.agg (vrow 2 (spAt u v)))) rfl (by kernel_rfl) (by kernel_rfl) (by kernel_rfl) (fun _ _ _ h => by cases h.1) (yields_row (by rfl) 105 _ rfl (bw) (by kernel_rfl) 2 (spAt u v) 105 _ Tryd.underlying105 rfl size_spot (fun _ h => h.2.2.2.1)) hH ?_
      (try simp only [Act.put, List.setIfInBounds_toArray, List.set_cons_succ, List.set_cons_zero])
      refine wpAnyH_take (i := 13) (v := (.pointer (some ⟨w.heap.size + 1 + 1 + 1, 258, none⟩))) rfl (by kernel_rfl) (by kernel_rfl) (by kernel_rfl) (fun _ _ _ h => by cases h.1) (.inl ⟨by rfl, fun w _ => by go_simp⟩) hH ?_
      (try simp only [Act.put, List.setIfInBounds_toArray, List.set_cons_succ, List.set_cons_zero])
      refine wpAnyH_ready (rs := [6, 11]) (by kernel_rfl) (by simp) (AllReadyH.cons rfl (fun K hK => ?_) (AllReadyH.cons rfl (fun K hK => ?_) AllReadyH.nil))
      · rw [if_pos (by rfl)]
        unfold Oper.wp
        rw [run_ld1 5 (.tmp 57) rfl (w.heap.size + 3) (258 + y) (by kernel_rfl) 266 ((T.setWet (8 * y + x) (s.wet (8 * v + u))).setDye3 (24 * y + 3 * x) (fun i => s.dye (24 * v + 3 * u + i))).at 39 _ Tryd.underlying5 rfl VM (by omega)]
        rw [Sh.at_wax1 _ _ (by omega)]
        refine hK.out _ _ hH (fun hH => ?_)
        clear hK K
        (try simp only [Act.put, List.setIfInBounds_toArray, List.set_cons_succ, List.set_cons_zero])
        refine wpAnyH_ready (rs := [11]) (by kernel_rfl) (by simp) (AllReadyH.cons rfl (fun K hK => ?_) AllReadyH.nil)
        rw [if_pos (by rfl)]
        go_simp
        go_at_call 110
        refine (HWX.out _).mono ?_
        rintro o X1 ⟨rfl, hb⟩
        replace hH : Below w.heap.size w X1 ∧ Wb.grownBy X1 (some (w.heap.size + 3)) ∧ X1.heap[Bx]? = some (.cells (vrow 2 (spAt x y)) 105) ∧ X1.heap[bw]? = some (.cells (vrow 2 (spAt u v)) 105) ∧ X1.heap[w.heap.size]? = some (.cells (vrow 266 s.at) 39) ∧ X1.heap[w.heap.size + 1]? = some (.cells (vrow 1 fun _ => .func (.func 92) #[.agg s.row] #[]) 126) ∧ X1.heap[w.heap.size + 2]? = some (.cells (vrow 266 Sh.zero.at) 39) ∧ X1.heap[b]? = some (.cells (vrow 266 s.at) 39) := ⟨hH.1.trans (hb.mono hH.1.size), grown_next hH.2.1 hb, row_next hb hH.2.2.1, row_next hb hH.2.2.2.1, row_next hb hH.2.2.2.2.1, row_next hb hH.2.2.2.2.2.1, row_next hb hH.2.2.2.2.2.2.1, row_next hb hH.2.2.2.2.2.2.2⟩
        replace VM := row_next hb VM
        clear hb
        refine hK.out _ _ hH (fun hH => ?_)
        clear hK K
        (try simp only [Act.put, List.setIfInBounds_toArray, List.set_cons_succ, List.set_cons_zero])
        refine wpAnyH_ready (rs := [12]) (by kernel_rfl) (by simp) (AllReadyH.cons rfl (fun K hK => ?_) AllReadyH.nil)
        rw [if_pos (by rfl)]
        go_simp
        go_at_call 109
        refine (withWax_on' (T.wax y) x hx8 _).mono ?_
        rintro o X9 ⟨rfl, e9⟩
        rw [e9]
        clear e9
        refine hK.out _ _ hH (fun hH => ?_)
        clear hK K
        (try simp only [Act.put, List.setIfInBounds_toArray, List.set_cons_succ, List.set_cons_zero])
        refine wpAnyH_take (i := 14) (v := (.pointer (some ⟨w.heap.size + 1 + 1 + 1, 258 + y, none⟩))) rfl (by kernel_rfl) (by kernel_rfl) (by kernel_rfl) (fun _ _ _ h => by cases h.1) (.inl ⟨by rfl, fun w _ => by go_simp⟩) hH ?_
        (try simp only [Act.put, List.setIfInBounds_toArray, List.set_cons_succ, List.set_cons_zero])
        refine wpAnyH_ready (rs := [15]) (by kernel_rfl) (by simp) (AllReadyH.cons rfl (fun K hK => ?_) AllReadyH.nil)
        rw [if_pos (by rfl)]
        unfold Oper.wp
        rw [run_store1 5 (.tmp 66) (.tmp 64) rfl (w.heap.size + 3) (258 + y) (by kernel_rfl) 266 ((T.setWet (8 * y + x) (s.wet (8 * v + u))).setDye3 (24 * y + 3 * x) (fun i => s.dye (24 * v + 3 * u + i))).at (.int .u8 (onB (T.wax y) x)) (by kernel_rfl) 39 size_u8 VM (by omega) rfl, Oper.upon_skip]
        rw [wax_at _ y hy8]
        have V2 := row_set VM (vrow 266 (((T.setWet (8 * y + x) (s.wet (8 * v + u))).setDye3 (24 * y + 3 * x) (fun i => s.dye (24 * v + 3 * u + i))).setWax y (onB (T.wax y) x)).at)
        have hH2 : Below w.heap.size w (X1.setRow (w.heap.size + 3) (vrow 266 (((T.setWet (8 * y + x) (s.wet (8 * v + u))).setDye3 (24 * y + 3 * x) (fun i => s.dye (24 * v + 3 * u + i))).setWax y (onB (T.wax y) x)).at)) ∧ Wb.grownBy (X1.setRow (w.heap.size + 3) (vrow 266 (((T.setWet (8 * y + x) (s.wet (8 * v + u))).setDye3 (24 * y + 3 * x) (fun i => s.dye (24 * v + 3 * u + i))).setWax y (onB (T.wax y) x)).at)) (some (w.heap.size + 3)) ∧ (X1.setRow (w.heap.size + 3) (vrow 266 (((T.setWet (8 * y + x) (s.wet (8 * v + u))).setDye3 (24 * y + 3 * x) (fun i => s.dye (24 * v + 3 * u + i))).setWax y (onB (T.wax y) x)).at)).heap[Bx]? = some (.cells (vrow 2 (spAt x y)) 105) ∧ (X1.setRow (w.heap.size + 3) (vrow 266 (((T.setWet (8 * y + x) (s.wet (8 * v + u))).setDye3 (24 * y + 3 * x) (fun i => s.dye (24 * v + 3 * u + i))).setWax y (onB (T.wax y) x)).at)).heap[bw]? = some (.cells (vrow 2 (spAt u v)) 105) ∧ (X1.setRow (w.heap.size + 3) (vrow 266 (((T.setWet (8 * y + x) (s.wet (8 * v + u))).setDye3 (24 * y + 3 * x) (fun i => s.dye (24 * v + 3 * u + i))).setWax y (onB (T.wax y) x)).at)).heap[w.heap.size]? = some (.cells (vrow 266 s.at) 39) ∧ (X1.setRow (w.heap.size + 3) (vrow 266 (((T.setWet (8 * y + x) (s.wet (8 * v + u))).setDye3 (24 * y + 3 * x) (fun i => s.dye (24 * v + 3 * u + i))).setWax y (onB (T.wax y) x)).at)).heap[w.heap.size + 1]? = some (.cells (vrow 1 fun _ => .func (.func 92) #[.agg s.row] #[]) 126) ∧ (X1.setRow (w.heap.size + 3) (vrow 266 (((T.setWet (8 * y + x) (s.wet (8 * v + u))).setDye3 (24 * y + 3 * x) (fun i => s.dye (24 * v + 3 * u + i))).setWax y (onB (T.wax y) x)).at)).heap[w.heap.size + 2]? = some (.cells (vrow 266 Sh.zero.at) 39) ∧ (X1.setRow (w.heap.size + 3) (vrow 266 (((T.setWet (8 * y + x) (s.wet (8 * v + u))).setDye3 (24 * y + 3 * x) (fun i => s.dye (24 * v + 3 * u + i))).setWax y (onB (T.wax y) x)).at)).heap[b]? = some (.cells (vrow 266 s.at) 39) := ⟨Below_setRow hH.1 (by omega) _, grown_set hH.2.1 _, row_set' (by omega) hH.2.2.1 _, row_set' (by omega) hH.2.2.2.1 _, row_set' (by omega) hH.2.2.2.2.1 _, row_set' (by omega) hH.2.2.2.2.2.1 _, row_set' (by omega) hH.2.2.2.2.2.2.1 _, row_set' (by omega) hH.2.2.2.2.2.2.2 _⟩
        clear VM
        generalize World.setRow X1 _ _ = WS at V2 hH2 ⊢
        refine hK.out _ _ hH2 (fun hH => ?_)
        clear hK K hH2
        (try simp only [Act.put, List.setIfInBounds_toArray, List.set_cons_succ, List.set_cons_zero])
        refine wpAnyH_done (by kernel_rfl) ?_ _
        refine ⟨rfl, ?_⟩
        refine ⟨keeps_grown hMc.out hH.2.1, kp2_grown hH.2.1 (by omega) (by omega) (by omega) (by omega), hH.2.2.2.2.1, hH.2.2.2.2.2.1, hH.2.2.2.2.2.2.1, ?_, hH.2.2.2.2.2.2.2, hH.1⟩
        rw [hap.out, copyI, HB.out]
        exact V2
      · rw [if_pos (by rfl)]
        go_simp
        go_at_call 110
        refine (HWX.out _).mono ?_
        rintro o X2 ⟨rfl, hb⟩
        replace hH : Below w.heap.size w X2 ∧ Wb.grownBy X2 (some (w.heap.size + 3)) ∧ X2.heap[Bx]? = some (.cells (vrow 2 (spAt x y)) 105) ∧ X2.heap[bw]? = some (.cells (vrow 2 (spAt u v)) 105) ∧ X2.heap[w.heap.size]? = some (.cells (vrow 266 s.at) 39) ∧ X2.heap[w.heap.size + 1]? = some (.cells (vrow 1 fun _ => .func (.func 92) #[.agg s.row] #[]) 126) ∧ X2.heap[w.heap.size + 2]? = some (.cells (vrow 266 Sh.zero.at) 39) ∧ X2.heap[b]? = some (.cells (vrow 266 s.at) 39) := ⟨hH.1.trans (hb.mono hH.1.size), grown_next hH.2.1 hb, row_next hb hH.2.2.1, row_next hb hH.2.2.2.1, row_next hb hH.2.2.2.2.1, row_next hb hH.2.2.2.2.2.1, row_next hb hH.2.2.2.2.2.2.1, row_next hb hH.2.2.2.2.2.2.2⟩
        replace VM := row_next hb VM
        clear hb
        refine hK.out _ _ hH (fun hH => ?_)
        clear hK K
        (try simp only [Act.put, List.setIfInBounds_toArray, List.set_cons_succ, List.set_cons_zero])
        refine wpAnyH_ready (rs := [6]) (by kernel_rfl) (by simp) (AllReadyH.cons rfl (fun K hK => ?_) AllReadyH.nil)
        rw [if_pos (by rfl)]
        unfold Oper.wp
        rw [run_ld1 5 (.tmp 57) rfl (w.heap.size + 3) (258 + y) (by kernel_rfl) 266 ((T.setWet (8 * y + x) (s.wet (8 * v + u))).setDye3 (24 * y + 3 * x) (fun i => s.dye (24 * v + 3 * u + i))).at 39 _ Tryd.underlying5 rfl VM (by omega)]
        rw [Sh.at_wax1 _ _ (by omega)]
        refine hK.out _ _ hH (fun hH => ?_)
        clear hK K
        (try simp only [Act.put, List.setIfInBounds_toArray, List.set_cons_succ, List.set_cons_zero])
        refine wpAnyH_ready (rs := [12]) (by kernel_rfl) (by simp) (AllReadyH.cons rfl (fun K hK => ?_) AllReadyH.nil)
        rw [if_pos (by rfl)]
        go_simp
        go_at_call 109
        refine (withWax_on' (T.wax y) x hx8 _).mono ?_
        rintro o X9 ⟨rfl, e9⟩
        rw [e9]
        clear e9
        refine hK.out _ _ hH (fun hH => ?_)
        clear hK K
        (try simp only [Act.put, List.setIfInBounds_toArray, List.set_cons_succ, List.set_cons_zero])
        refine wpAnyH_take (i := 14) (v := (.pointer (some ⟨w.heap.size + 1 + 1 + 1, 258 + y, none⟩))) rfl (by kernel_rfl) (by kernel_rfl) (by kernel_rfl) (fun _ _ _ h => by cases h.1) (.inl ⟨by rfl, fun w _ => by go_simp⟩) hH ?_
        (try simp only [Act.put, List.setIfInBounds_toArray, List.set_cons_succ, List.set_cons_zero])
        refine wpAnyH_ready (rs := [15]) (by kernel_rfl) (by simp) (AllReadyH.cons rfl (fun K hK => ?_) AllReadyH.nil)
        rw [if_pos (by rfl)]
        unfold Oper.wp
        rw [run_store1 5 (.tmp 66) (.tmp 64) rfl (w.heap.size + 3) (258 + y) (by kernel_rfl) 266 ((T.setWet (8 * y + x) (s.wet (8 * v + u))).setDye3 (24 * y + 3 * x) (fun i => s.dye (24 * v + 3 * u + i))).at (.int .u8 (onB (T.wax y) x)) (by kernel_rfl) 39 size_u8 VM (by omega) rfl, Oper.upon_skip]
        rw [wax_at _ y hy8]
        have V2 := row_set VM (vrow 266 (((T.setWet (8 * y + x) (s.wet (8 * v + u))).setDye3 (24 * y + 3 * x) (fun i => s.dye (24 * v + 3 * u + i))).setWax y (onB (T.wax y) x)).at)
        have hH2 : Below w.heap.size w (X2.setRow (w.heap.size + 3) (vrow 266 (((T.setWet (8 * y + x) (s.wet (8 * v + u))).setDye3 (24 * y + 3 * x) (fun i => s.dye (24 * v + 3 * u + i))).setWax y (onB (T.wax y) x)).at)) ∧ Wb.grownBy (X2.setRow (w.heap.size + 3) (vrow 266 (((T.setWet (8 * y + x) (s.wet (8 * v + u))).setDye3 (24 * y + 3 * x) (fun i => s.dye (24 * v + 3 * u + i))).setWax y (onB (T.wax y) x)).at)) (some (w.heap.size + 3)) ∧ (X2.setRow (w.heap.size + 3) (vrow 266 (((T.setWet (8 * y + x) (s.wet (8 * v + u))).setDye3 (24 * y + 3 * x) (fun i => s.dye (24 * v + 3 * u + i))).setWax y (onB (T.wax y) x)).at)).heap[Bx]? = some (.cells (vrow 2 (spAt x y)) 105) ∧ (X2.setRow (w.heap.size + 3) (vrow 266 (((T.setWet (8 * y + x) (s.wet (8 * v + u))).setDye3 (24 * y + 3 * x) (fun i => s.dye (24 * v + 3 * u + i))).setWax y (onB (T.wax y) x)).at)).heap[bw]? = some (.cells (vrow 2 (spAt u v)) 105) ∧ (X2.setRow (w.heap.size + 3) (vrow 266 (((T.setWet (8 * y + x) (s.wet (8 * v + u))).setDye3 (24 * y + 3 * x) (fun i => s.dye (24 * v + 3 * u + i))).setWax y (onB (T.wax y) x)).at)).heap[w.heap.size]? = some (.cells (vrow 266 s.at) 39) ∧ (X2.setRow (w.heap.size + 3) (vrow 266 (((T.setWet (8 * y + x) (s.wet (8 * v + u))).setDye3 (24 * y + 3 * x) (fun i => s.dye (24 * v + 3 * u + i))).setWax y (onB (T.wax y) x)).at)).heap[w.heap.size + 1]? = some (.cells (vrow 1 fun _ => .func (.func 92) #[.agg s.row] #[]) 126) ∧ (X2.setRow (w.heap.size + 3) (vrow 266 (((T.setWet (8 * y + x) (s.wet (8 * v + u))).setDye3 (24 * y + 3 * x) (fun i => s.dye (24 * v + 3 * u + i))).setWax y (onB (T.wax y) x)).at)).heap[w.heap.size + 2]? = some (.cells (vrow 266 Sh.zero.at) 39) ∧ (X2.setRow (w.heap.size + 3) (vrow 266 (((T.setWet (8 * y + x) (s.wet (8 * v + u))).setDye3 (24 * y + 3 * x) (fun i => s.dye (24 * v + 3 * u + i))).setWax y (onB (T.wax y) x)).at)).heap[b]? = some (.cells (vrow 266 s.at) 39) := ⟨Below_setRow hH.1 (by omega) _, grown_set hH.2.1 _, row_set' (by omega) hH.2.2.1 _, row_set' (by omega) hH.2.2.2.1 _, row_set' (by omega) hH.2.2.2.2.1 _, row_set' (by omega) hH.2.2.2.2.2.1 _, row_set' (by omega) hH.2.2.2.2.2.2.1 _, row_set' (by omega) hH.2.2.2.2.2.2.2 _⟩
        clear VM
        generalize World.setRow X2 _ _ = WS at V2 hH2 ⊢
        refine hK.out _ _ hH2 (fun hH => ?_)
        clear hK K hH2
        (try simp only [Act.put, List.setIfInBounds_toArray, List.set_cons_succ, List.set_cons_zero])
        refine wpAnyH_done (by kernel_rfl) ?_ _
        refine ⟨rfl, ?_⟩
        refine ⟨keeps_grown hMc.out hH.2.1, kp2_grown hH.2.1 (by omega) (by omega) (by omega) (by omega), hH.2.2.2.2.1, hH.2.2.2.2.2.1, hH.2.2.2.2.2.2.1, ?_, hH.2.2.2.2.2.2.2, hH.1⟩
        rw [hap.out, copyI, HB.out]
        exact V2
  case done =>
    rintro D W hD ⟨P, FN, Z, M, S, hB⟩ hd
    rw [cellsN_val] at M
    replace hd := Go.Lib.hid hd; replace hB := Go.Lib.hid hB; replace M := Go.Lib.hid M; replace Z := Go.Lib.hid Z
    clear P FN S
    go_wp2_with (first
      | (refine wpList_loadall rfl 39 (.tmp 9) rfl _ rfl 266 (arrI s fx fy (plainSh a c) (pairsL a c)).at 39 _ Tryd.underlying39 rfl size_sheet M.out ?_)
      | (refine wpList_storeall rfl 39 (.tmp 8) (.tmp 67) rfl (w.heap.size + 2) rfl 266 Sh.zero.at (arrI s fx fy (plainSh a c) (pairsL a c)).at rfl 39 size_sheet Z.out (fun i _ => Sh.one _ i) ?_))
    have hlt := row_lt hd.out
    have Z2 := row_set Z.out (vrow 266 (arrI s fx fy (plainSh a c) (pairsL a c)).at)
    refine leaveM rfl ((setRow_other _ _ D _ (by omega)).trans hd.out) (res_row1 Tryd.results91 (w.heap.size + 2) 266 (arrI s fx fy (plainSh a c) (pairsL a c)).at 39 _ Tryd.underlying39 rfl size_sheet rfl (row_put Z2 (by omega))) ?_
    exact ⟨rfl, below_put _ (Below_setRow hB.out (by omega) _) (by omega) (by simpa using hlt)⟩
  case stop =>
    rintro D c pre W hD h hd
    exact h.elim
end Go.Proofs.YtfhfiaphdgfmnaaDoor
