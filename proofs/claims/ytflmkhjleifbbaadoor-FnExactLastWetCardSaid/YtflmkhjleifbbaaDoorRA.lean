import Derived.OwnWalkIn
import Derived.RangeFuncNested
import Derived.RangeFuncLeaves
import Derived.Test.YtflmkhjleifbbaaDoorPB1
import Derived.Test.YtflmkhjleifbbaaDoorCellsN
import Derived.Test.YtflmkhjleifbbaaDoorBr
import Derived.Test.YtflmkhjleifbbaaDoorChosG
import Derived.Test.YtflmkhjleifbbaaDoorDryM
import Derived.Test.YtflmkhjleifbbaaDoorRunM
import Derived.Test.YtflmkhjleifbbaaDoorBest
import Derived.Test.YtflmkhjleifbbaaDoorGroundM
import Derived.Deep.RegionHeld3
import Derived.Test.YtflmkhjleifbbaaDoorSpots
namespace Go.Proofs.YtflmkhjleifbbaaDoor
open Go.RowKit
set_option linter.unusedVariables false
set_option linter.unusedSimpArgs false
/-- rings: 64 numbers -/
def rgf (r : Nat → Int) : Nat → Value := fun i => .int .i16 (r i)
def setR (r : Nat → Int) (i : Nat) (v : Int) : Nat → Int := fun j => if j = i then v else r j
theorem rgf_set (r : Nat → Int) (i : Nat) (v : Int) (n : Nat) : vrow n (over (rgf r) i 1 fun _ => .int .i16 v) = vrow n (rgf (setR r i v)) := vrow_ext _ _ _ fun j _ => by
  unfold over rgf setR
  by_cases h : j = i
  · subst h; rw [if_pos ⟨by omega, by omega⟩, if_pos rfl]
  · rw [if_neg (by omega), if_neg h]
def nrf (l : List Sp8) : Nat → Int := l.foldl (fun r p => setR r (8 * p.1.2 + p.1.1) (-1)) (fun _ => 0)
theorem nrf_app (l : List Sp8) (p : Sp8) : nrf (l ++ [p]) = setR (nrf l) (8 * p.1.2 + p.1.1) (-1) := by unfold nrf; rw [List.foldl_append]; rfl
theorem nrf_val : ∀ i, i < 64 → nrf (cellsL 8 8) i = -1 := by decide +kernel
theorem nrf_all : vrow 64 (rgf (nrf (cellsL 8 8))) = vrow 64 (rgf fun _ => -1) := vrow_ext _ _ _ fun i hi => by unfold rgf; rw [nrf_val i hi]
theorem size_rg : (Tryd.prog.info? 37).map (·.size) = some 64 := by kernel_rfl
theorem zero_rg : ∀ w, (zeroValue 37).run Tryd.prog w = .ok (.agg (vrow 64 (rgf fun _ => 0))) w := fun _ => by kernel_rfl
theorem rgf_one (r : Nat → Int) (i : Nat) : (rgf r i).oneCell' = true := rfl
attribute [local go_sem] Oper.semAt_some
set_option maxRecDepth 100000 in
set_option maxHeartbeats 8000000 in
theorem noRings_any (w : World) : Calls Tryd.prog 50 #[] w fun e w' => e = .returned (.agg (vrow 64 (rgf fun _ => -1))) ∧ Below w.heap.size w w' := by
  have zs := zero_spot
  have zr := zero_rg
  have hB : Hid (Below w.heap.size w ((w.alloc (.cells (vrow 64 (rgf fun _ => 0)) 37)).alloc (.cells (vrow 64 (rgf fun _ => 0)) 37))) := Go.Lib.hid (((Below.refl w.heap.size w).alloc (by simp <;> omega) _).alloc (by simp <;> omega) _)
  have Z : Hid (((w.alloc (.cells (vrow 64 (rgf fun _ => 0)) 37)).alloc (.cells (vrow 64 (rgf fun _ => 0)) 37)).heap[w.heap.size]? = some (.cells (vrow 64 (rgf fun _ => 0)) 37)) := heap_past _ _ _ _ (by simp <;> omega) (heap_at _ _ _ (by simp))
  have R0 : Hid (((w.alloc (.cells (vrow 64 (rgf fun _ => 0)) 37)).alloc (.cells (vrow 64 (rgf fun _ => 0)) 37)).heap[w.heap.size + 1]? = some (.cells (vrow 64 (rgf fun _ => 0)) 37)) := heap_at _ _ _ (by simp)
  refine (callsIn_wide (n := 9)).1 ?_
  refine callsIn_of_wp_marks Tryd.func50 rfl trivial ?_ rfl
  simp only [Tryd.ntmps50, List.size_toArray, List.length_cons, List.length_nil, Nat.reduceAdd, Nat.reduceSub, Array.replicate_succ, Array.replicate_zero, List.push_toArray, List.append_toArray, List.nil_append, List.cons_append]
  refine wpIn_wide.2 ?_
  go_wp2_with (first
    | go_skip
    | (go_at_call 59; refine (cells_any _ _ _).mono ?_; rintro e w5 ⟨rfl, rfl⟩))
  generalize hWn : ((w.alloc (.cells (vrow 64 (rgf fun _ => 0)) 37)).alloc (.cells (vrow 64 (rgf fun _ => 0)) 37)) = Wn at hB Z R0 ⊢
  have hws : Wn.heap.size = w.heap.size + 1 + 1 := by rw [← hWn]; simp
  clear hWn
  have c1 := heap_at (Wn.alloc (.cells #[.int .i8 8] 22)) (.cells #[.int .i8 8] 22) (Wn.heap.size + 1) (by simp)
  have c2 := heap_past (Wn.alloc (.cells #[.int .i8 8] 22)) (.cells #[.int .i8 8] 22) _ Wn.heap.size (by simp) (heap_at Wn (.cells #[.int .i8 8] 22) _ rfl)
  have hB1 : Below Wn.heap.size Wn ((Wn.alloc (.cells #[.int .i8 8] 22)).alloc (.cells #[.int .i8 8] 22)) := ((Below.refl _ _).alloc (Nat.le_refl _) _).alloc (by simp) _
  have hs0 : ((Wn.alloc (.cells #[.int .i8 8] 22)).alloc (.cells #[.int .i8 8] 22)).heap.size = w.heap.size + 4 := by simp; omega
  obtain ⟨W0, hW0⟩ : ∃ W0, (Wn.alloc (.cells #[.int .i8 8] 22)).alloc (.cells #[.int .i8 8] 22) = W0 := ⟨_, rfl⟩
  rw [hW0] at c1 c2 hB1 hs0 ⊢
  clear hW0
  rw [hws] at c1 c2
  try rw [hws]
  replace Z := row_next hB1 Z.out; replace R0 := row_next hB1 R0.out; replace hB := below_next hB.out hB1
  clear hB1 hws
  refine wp_cellsN (d := 2) (w.heap.size + 1 + 1 + 1) (w.heap.size + 1 + 1) 8 8 (by omega) (by omega) rfl c1 c2
    (fun pre W => W.heap[w.heap.size + 1]? = some (.cells (vrow 64 (rgf (nrf (pre.map toSp)))) 37) ∧ W.heap[w.heap.size]? = some (.cells (vrow 64 (rgf fun _ => 0)) 37) ∧ Below w.heap.size w W)
    (fun _ _ _ => False)
    (OwnFrom.and (own_rowDC (o := fun pre : List (SpN 8 8) => .cells (vrow 64 (rgf (nrf (pre.map toSp)))) 37) (by omega)) (OwnFrom.and (own_row (by omega)) (ownFrom_below (Nat.le_refl _) (by omega))))
    (fun c => own_pure _)
    ⟨R0, Z, hB⟩ ?assign ?body ?done ?stop
  case assign =>
    intro l x W K hK
    simp only [List.setIfInBounds_toArray, List.set_cons_succ, List.set_cons_zero] at hK ⊢
    gi_wp2_with (refine wpListIn_storeall rfl 42 (.tmp 2) (.tmp 4) rfl _ rfl 2 (spAt 0 0) (spAt x.1.1 x.1.2) rfl 42 size_spot (heap_at _ _ _ rfl) (fun i _ => spAt_one _ _ i) ?_; rw [setRow_at _ _ _ _ _ rfl])
    exact hK
  case body =>
    rintro l pre ⟨⟨x, y⟩, hx, hy⟩ Wb W Bx hK hBx R hsz ⟨R0, Z, hB⟩ hlen
    simp only [List.setIfInBounds_toArray, List.set_cons_succ, List.set_cons_zero] at R ⊢
    replace hx : x < 8 := hx
    replace hy : y < 8 := hy
    have hts : toSp (⟨(x, y), hx, hy⟩ : SpN 8 8) = ⟨(x, y), hx, hy⟩ := Subtype.ext (toSp_val (by omega) (by omega) _)
    have hap : nrf ((pre ++ [(⟨(x, y), hx, hy⟩ : SpN 8 8)]).map toSp) = setR (nrf (pre.map toSp)) (8 * y + x) (-1) := by
      rw [List.map_append, List.map_cons, List.map_nil, nrf_app, hts]
    generalize nrf (pre.map toSp) = r at *
    have hxI : (x : Int) < 8 := by omega
    have hyI : (y : Int) < 8 := by omega
    have hrl := row_lt R
    have hCk := Go.Lib.hid ((CkB.start (N := W0.heap.size) (b1 := w.heap.size + 1 + 1 + 1) (b2 := w.heap.size + 1 + 1) (X := Wb) (by omega) (by omega)).step (grown_next (grown_refl Wb none) hK) (fun j e => by cases e))
    replace R := Go.Lib.hid R; replace R0 := Go.Lib.hid R0; replace Z := Go.Lib.hid Z; replace hB := Go.Lib.hid hB; have HAP := Go.Lib.hid hap
    clear hK hts hap
    gi_wp2
    refine region_tailI 6 (by kernel_rfl) (by kernel_rfl) (by kernel_rfl) ?_
    simp only [List.take_succ_cons, List.take_zero, List.drop_succ_cons, List.drop_zero, World.drew_eq]
    repeat (first
      | (refine wpStill_load1 rfl 22 (.tmp 5) rfl (Bx) (1) rfl 2 (spAt x y) _ _ Tryd.underlying22 rfl R.out (by omega) ?_; rw [spAt_1]; simp only [Act.put, List.setIfInBounds_toArray, List.set_cons_succ, List.set_cons_zero])
      | (refine wpStill_load1 rfl 22 (.tmp 7) rfl (Bx) (0) rfl 2 (spAt x y) _ _ Tryd.underlying22 rfl R.out (by omega) ?_; rw [spAt_0]; simp only [Act.put, List.setIfInBounds_toArray, List.set_cons_succ, List.set_cons_zero])
      | still_step
      | (refine wpStill_step (fun K hK => ?_); go_simp; simp only [hxI, hyI, if_true]; go_simp; refine hK _ ?_; clear hK K))
    refine wpStill_nil ?_
    refine wpList_store1 rfl 23 (.tmp 10) (.const (.int .i16 (-1))) rfl (w.heap.size + 1) (y * 8 + x) rfl 64 (rgf r) (.int .i16 (-1)) rfl 37 size_i16 R0.out (by omega) rfl ?_
    rw [rgf_set, Nat.mul_comm y 8]
    refine ⟨rfl, ?_⟩
    have hgr := grown_set (grown_drew (grown_refl W (some (w.heap.size + 1)))) (vrow 64 (rgf (setR r (8 * y + x) (-1))))
    have hc := hCk.out.step hgr (fun j e => by cases e; exact ⟨by omega, by omega, by omega⟩)
    exact ⟨hc.keep, hc.kp, by rw [HAP.out]; exact row_set (w := W.drew) R0.out _, row_set' (w := W.drew) (g := w.heap.size + 1) (by omega) Z.out _, Below_setRow hB.out.drew (show w.heap.size ≤ w.heap.size + 1 by omega) _⟩
  case done =>
    rintro D W hD ⟨R0, Z, hB⟩ hd
    rw [toSp_cells 8 8 (by omega) 8 (Nat.le_refl _) (by omega), nrf_all] at R0
    replace hd := Go.Lib.hid hd; replace hB := Go.Lib.hid hB; replace R0 := Go.Lib.hid R0; replace Z := Go.Lib.hid Z
    go_wp2_with (first
      | ((with_reducible refine wlAt 11 rfl ?_); refine wpList_loadall rfl 37 (.tmp 1) rfl (w.heap.size + 1) rfl 64 (rgf fun _ => -1) 37 _ Tryd.underlying37 rfl size_rg R0.out ?_)
      | ((with_reducible refine wlOp (.store 37 (.tmp 0) (.tmp 11)) rfl ?_); refine wpList_storeall rfl 37 (.tmp 0) (.tmp 11) rfl w.heap.size rfl 64 (rgf fun _ => 0) (rgf fun _ => -1) rfl 37 size_rg Z.out (fun i _ => rfl) ?_; replace Z := Go.Lib.hid (row_set Z.out (vrow 64 (rgf fun _ => -1))); replace hd := Go.Lib.hid (row_set' (g := w.heap.size) (by omega) hd.out (vrow 64 (rgf fun _ => -1))); replace hB := Go.Lib.hid (Below_setRow hB.out (Nat.le_refl _) (vrow 64 (rgf fun _ => -1)))))
    have hlt := row_lt hd.out
    refine leaveB rfl hd.out ?_ ⟨rfl, below_putB _ hB.out (by omega) hlt⟩
    exact results_cell_row Tryd.results50 _ _ w.heap.size 37 _ (0, 0) _ rfl ((World.putObj_heap_other (by omega)).trans Z.out) Tryd.underlying37 (by first | rfl | trivial) (by rw [vrow_size]; exact size_rg)
  case stop =>
    rintro D c pre W hD h hd
    exact h.elim
end Go.Proofs.YtflmkhjleifbbaaDoor
namespace Go.Proofs.YtflmkhjleifbbaaDoor
open Go.RowKit
set_option maxRecDepth 100000
set_option linter.unusedVariables false
set_option linter.unusedSimpArgs false
/-- what a round of drying leaves at each cell -/
theorem dryF_wet (s B : Sh) : ∀ (l : List Sp8) (T : Sh × Int), (l.map pix).Nodup → (∀ p ∈ l, T.1.wet (pix p) = B.wet (pix p)) →
    (∀ p ∈ l, (l.foldl (cellDry s B) T).1.wet (pix p) = B.wet (pix p) - loss s B p) ∧ ∀ i, i ∉ l.map pix → (l.foldl (cellDry s B) T).1.wet i = T.1.wet i
  | [], T, _, _ => ⟨fun p h => absurd h (by simp), fun i _ => rfl⟩
  | q :: l, T, hn, hT => by
    rw [List.map_cons, List.nodup_cons] at hn
    have hT2 : ∀ p ∈ l, (cellDry s B T q).1.wet (pix p) = B.wet (pix p) := fun p hp => by
      have hne : pix p ≠ pix q := fun e => hn.1 (by rw [← e]; exact List.mem_map_of_mem hp)
      show (T.1.sw (pix q) _).wet (pix p) = _
      rw [sw_wet, if_neg hne]
      exact hT p (List.mem_cons_of_mem _ hp)
    obtain ⟨h1, h2⟩ := dryF_wet s B l (cellDry s B T q) hn.2 hT2
    rw [List.foldl_cons]
    refine ⟨fun p hp => ?_, fun i hi => ?_⟩
    · rcases List.mem_cons.1 hp with rfl | hp
      · rw [h2 _ hn.1]
        show (T.1.sw (pix p) _).wet (pix p) = _
        rw [sw_wet, if_pos rfl, hT p (List.mem_cons_self ..)]
      · exact h1 p hp
    · rw [List.map_cons, List.mem_cons, not_or] at hi
      rw [h2 i hi.2]
      show (T.1.sw (pix q) _).wet i = _
      rw [sw_wet, if_neg hi.1]
theorem loss_pos {s B : Sh} {p : Sp8} (h : 0 < B.wet (pix p)) : 1 ≤ loss s B p := by
  have := (dryN_bd B (nbs s p.1.1 p.1.2 4)).1
  unfold loss
  omega
/-- the program's count: a round more for each cell that has water -/
def incR (T : Sh) (l : List Sp8) (r : Nat → Int) : Nat → Int := l.foldl (fun r p => if 0 < T.wet (pix p) then setR r (pix p) (r (pix p) + 1) else r) r
theorem incR_app (T : Sh) (l : List Sp8) (p : Sp8) (r : Nat → Int) : incR T (l ++ [p]) r = if 0 < T.wet (pix p) then setR (incR T l r) (pix p) (incR T l r (pix p) + 1) else incR T l r := by unfold incR; rw [List.foldl_append]; rfl
theorem incR_val (T : Sh) : ∀ (l : List Sp8) (r : Nat → Int), (l.map pix).Nodup → (∀ p ∈ l, incR T l r (pix p) = if 0 < T.wet (pix p) then r (pix p) + 1 else r (pix p)) ∧ ∀ i, i ∉ l.map pix → incR T l r i = r i
  | [], r, _ => ⟨fun p h => absurd h (by simp), fun i _ => rfl⟩
  | q :: l, r, hn => by
    rw [List.map_cons, List.nodup_cons] at hn
    have e : incR T (q :: l) r = incR T l (if 0 < T.wet (pix q) then setR r (pix q) (r (pix q) + 1) else r) := rfl
    obtain ⟨h1, h2⟩ := incR_val T l (if 0 < T.wet (pix q) then setR r (pix q) (r (pix q) + 1) else r) hn.2
    rw [e]
    refine ⟨fun p hp => ?_, fun i hi => ?_⟩
    · rcases List.mem_cons.1 hp with rfl | hp
      · rw [h2 _ hn.1]
        by_cases hw : 0 < T.wet (pix p)
        · rw [if_pos hw, if_pos hw]; unfold setR; rw [if_pos rfl]
        · rw [if_neg hw, if_neg hw]
      · have hne : pix p ≠ pix q := fun e => hn.1 (by rw [← e]; exact List.mem_map_of_mem hp)
        rw [h1 p hp]
        have e2 : (if 0 < T.wet (pix q) then setR r (pix q) (r (pix q) + 1) else r) (pix p) = r (pix p) := by
          split
          · unfold setR; rw [if_neg hne]
          · rfl
        rw [e2]
    · rw [List.map_cons, List.mem_cons, not_or] at hi
      rw [h2 i hi.2]
      split
      · unfold setR; rw [if_neg hi.1]
      · rfl
/-- the model's: the round at whose end a cell is dry -/
def outR (T U : Sh) (n : Int) (l : List Sp8) (o : Nat → Int) : Nat → Int := l.foldl (fun o p => if 0 < T.wet (pix p) ∧ U.wet (pix p) = 0 then setR o (pix p) (n + 1) else o) o
theorem outR_app (T U : Sh) (n : Int) (l : List Sp8) (p : Sp8) (o : Nat → Int) : outR T U n (l ++ [p]) o = if 0 < T.wet (pix p) ∧ U.wet (pix p) = 0 then setR (outR T U n l o) (pix p) (n + 1) else outR T U n l o := by unfold outR; rw [List.foldl_append]; rfl
theorem outR_val (T U : Sh) (n : Int) : ∀ (l : List Sp8) (o : Nat → Int), (l.map pix).Nodup → (∀ p ∈ l, outR T U n l o (pix p) = if 0 < T.wet (pix p) ∧ U.wet (pix p) = 0 then n + 1 else o (pix p)) ∧ ∀ i, i ∉ l.map pix → outR T U n l o i = o i
  | [], o, _ => ⟨fun p h => absurd h (by simp), fun i _ => rfl⟩
  | q :: l, o, hn => by
    rw [List.map_cons, List.nodup_cons] at hn
    have e : outR T U n (q :: l) o = outR T U n l (if 0 < T.wet (pix q) ∧ U.wet (pix q) = 0 then setR o (pix q) (n + 1) else o) := rfl
    obtain ⟨h1, h2⟩ := outR_val T U n l (if 0 < T.wet (pix q) ∧ U.wet (pix q) = 0 then setR o (pix q) (n + 1) else o) hn.2
    rw [e]
    refine ⟨fun p hp => ?_, fun i hi => ?_⟩
    · rcases List.mem_cons.1 hp with rfl | hp
      · rw [h2 _ hn.1]
        by_cases hw : 0 < T.wet (pix p) ∧ U.wet (pix p) = 0
        · rw [if_pos hw, if_pos hw]; unfold setR; rw [if_pos rfl]
        · rw [if_neg hw, if_neg hw]
      · have hne : pix p ≠ pix q := fun e => hn.1 (by rw [← e]; exact List.mem_map_of_mem hp)
        rw [h1 p hp]
        have e2 : (if 0 < T.wet (pix q) ∧ U.wet (pix q) = 0 then setR o (pix q) (n + 1) else o) (pix p) = o (pix p) := by
          split
          · unfold setR; rw [if_neg hne]
          · rfl
        rw [e2]
    · rw [List.map_cons, List.mem_cons, not_or] at hi
      rw [h2 i hi.2]
      split
      · unfold setR; rw [if_neg hi.1]
      · rfl
/-- after n rounds: the program's ring of a cell with water is n; of all others it is the model's -/
def RgI (l : List Sp8) (T : Sh) (n : Int) (r o : Nat → Int) : Prop := (∀ p ∈ l, if 0 < T.wet (pix p) then r (pix p) = n else r (pix p) = o (pix p)) ∧ ∀ i, i < 64 → i ∉ l.map pix → r i = o i ∧ T.wet i = 0
theorem RgI.step {s T : Sh} {l m : List Sp8} {n : Int} {r o : Nat → Int} (hl : (l.map pix).Nodup) (hm : (m.map pix).Nodup) (hsub : ∀ p ∈ l, p ∈ m) (hw : ∀ i, i < 64 → 0 ≤ T.wet i) (h : RgI l T n r o) :
    RgI l (l.foldl (cellDry s T) (T, 0)).1 (n + 1) (incR T l r) (outR T (l.foldl (cellDry s T) (T, 0)).1 n m o) := by
  obtain ⟨d1, d2⟩ := dryF_wet s T l (T, 0) hl (fun _ _ => rfl)
  obtain ⟨i1, i2⟩ := incR_val T l r hl
  obtain ⟨o1, o2⟩ := outR_val T (l.foldl (cellDry s T) (T, 0)).1 n m o hm
  generalize (l.foldl (cellDry s T) (T, 0)).1 = U at *
  refine ⟨fun p hp => ?_, fun i h64 hi => ?_⟩
  · have hr := h.1 p hp
    have hlb := (loss_bd (s := s) (B := T) (p := p) (hw _ (pix_lt p))).2.1
    rw [i1 p hp, o1 p (hsub p hp)]
    have hd := d1 p hp
    by_cases hT : 0 < T.wet (pix p)
    · rw [if_pos hT] at hr
      by_cases hU : 0 < U.wet (pix p)
      · rw [if_pos hU, if_pos hT, hr]
      · have hU0 : U.wet (pix p) = 0 := by omega
        rw [if_neg hU, if_pos hT, if_pos ⟨hT, hU0⟩, hr]
    · rw [if_neg hT] at hr
      have h0 : T.wet (pix p) = 0 := by have := hw (pix p) (pix_lt p); omega
      have hU : ¬ 0 < U.wet (pix p) := by
        have := (loss_bd (s := s) (B := T) (p := p) (hw _ (pix_lt p))).1
        omega
      rw [if_neg hU, if_neg hT, if_neg (fun hc => hT hc.1), hr]
  · obtain ⟨h1, h2⟩ := h.2 i h64 hi
    refine ⟨?_, by rw [d2 i hi]; exact h2⟩
    rw [i2 i hi, h1]
    by_cases hmi : i ∈ m.map pix
    · obtain ⟨p, hp, rfl⟩ := List.mem_map.1 hmi
      rw [o1 p hp, if_neg (fun hc => by have := hc.1; omega)]
    · rw [o2 i hmi]
theorem RgI.done {T : Sh} {l : List Sp8} {n : Int} {r o : Nat → Int} (h : RgI l T n r o) (h0 : ∀ p ∈ l, T.wet (pix p) = 0) (i : Nat) (h64 : i < 64) : r i = o i := by
  by_cases hi : i ∈ l.map pix
  · obtain ⟨p, hp, rfl⟩ := List.mem_map.1 hi
    have := h.1 p hp
    rwa [if_neg (by rw [h0 p hp]; omega)] at this
  · exact (h.2 i h64 hi).1
end Go.Proofs.YtflmkhjleifbbaaDoor
namespace Go.Proofs.YtflmkhjleifbbaaDoor
open Go.RowKit
set_option maxRecDepth 100000
set_option linter.unusedVariables false
def wsum (s : Sh) : Nat → Int
  | 0 => 0
  | i + 1 => wsum s i + s.wet i
theorem wsum_bd (s : Sh) (hf : s.fit) : ∀ i : Nat, i ≤ 64 → -32768 * (i : Int) ≤ wsum s i ∧ wsum s i ≤ 32767 * (i : Int)
  | 0, _ => by simp [wsum]
  | i + 1, hi => by
    have := wsum_bd s hf i (by omega)
    have := hf.wet i (by omega)
    simp only [wsum]; omega
def psumL (s : Sh) (l : List Sp8) : Int := l.foldl (fun n p => n + s.wet (8 * p.1.2 + p.1.1)) 0
theorem psumL_app (s : Sh) (l : List Sp8) (p : Sp8) : psumL s (l ++ [p]) = psumL s l + s.wet (8 * p.1.2 + p.1.1) := by simp [psumL, List.foldl_append]
theorem psum_from (s : Sh) (l : List Sp8) : ∀ n : Int, l.foldl (fun n p => n + s.wet (8 * p.1.2 + p.1.1)) n = n + psumL s l := by
  induction l with
  | nil => intro n; simp [psumL]
  | cons p l ih => intro n; simp only [List.foldl_cons, psumL]; rw [ih, ih]; omega
theorem psumL_cat (s : Sh) (l m : List Sp8) : psumL s (l ++ m) = psumL s l + psumL s m := by
  rw [show psumL s (l ++ m) = m.foldl (fun n p => n + s.wet (8 * p.1.2 + p.1.1)) (psumL s l) by simp [psumL, List.foldl_append], psum_from]
theorem psumL_bd (s : Sh) (hf : s.fit) : ∀ l : List Sp8, -32768 * (l.length : Int) ≤ psumL s l ∧ psumL s l ≤ 32767 * (l.length : Int)
  | [] => by simp [psumL]
  | p :: l => by
    have := psumL_bd s hf l
    obtain ⟨⟨x, y⟩, hx, hy⟩ := p
    have := hf.wet (8 * y + x) (by simp at hx hy; omega)
    rw [show psumL s (⟨(x, y), hx, hy⟩ :: l) = s.wet (8 * y + x) + psumL s l by simp only [psumL, List.foldl_cons]; rw [psum_from]; simp [psumL]]
    simp only [List.length_cons]
    omega
theorem row_sum (s : Sh) (y : Nat) (hy : y < 8) : ∀ a, a ≤ 8 → wsum s (8 * y + a) = wsum s (8 * y) + psumL s (rowOf a y)
  | 0, _ => by simp [rowOf, psumL]
  | a + 1, ha => by
    have h := row_sum s y hy a (by omega)
    have e := mk8_x (show a < 8 by omega) hy
    rw [rowOf_succ, psumL_app, e]
    show wsum s (8 * y + a) + s.wet (8 * y + a) = wsum s (8 * y) + (psumL s (rowOf a y) + s.wet (8 * y + a))
    omega
theorem row_zero (s : Sh) (y a : Nat) (hz : ∀ x, a ≤ x → x < 8 → s.wet (8 * y + x) = 0) : ∀ m, a + m ≤ 8 → wsum s (8 * y + (a + m)) = wsum s (8 * y + a)
  | 0, _ => rfl
  | m + 1, hm => by
    have h := row_zero s y a hz m (by omega)
    have h2 := hz (a + m) (by omega) (by omega)
    show wsum s (8 * y + (a + m)) + s.wet (8 * y + (a + m)) = _
    omega
theorem grid_sum (s : Sh) (a : Nat) (ha : a ≤ 8) (hz : ∀ x y, y < 8 → a ≤ x → x < 8 → s.wet (8 * y + x) = 0) : ∀ c, c ≤ 8 → wsum s (8 * c) = psumL s (cellsL a c)
  | 0, _ => by simp [cellsL, psumL, wsum]
  | c + 1, hc => by
    have h := grid_sum s a ha hz c (by omega)
    have h1 := row_sum s c (by omega) a ha
    have h2 := row_zero s c a (fun x h1 h2 => hz x c (by omega) h1 h2) (8 - a) (by omega)
    rw [cellsL_succ, psumL_cat, show 8 * (c + 1) = 8 * c + (a + (8 - a)) by omega]
    omega
theorem rest_zero (s : Sh) (c : Nat) (hz : ∀ i, 8 * c ≤ i → i < 64 → s.wet i = 0) : ∀ m, 8 * c + m ≤ 64 → wsum s (8 * c + m) = wsum s (8 * c)
  | 0, _ => rfl
  | m + 1, hm => by
    have h := rest_zero s c hz m (by omega)
    have h2 := hz (8 * c + m) (by omega) (by omega)
    show wsum s (8 * c + m) + s.wet (8 * c + m) = _
    omega
theorem valid_at (s : Sh) (hv : okI s = true) (x y : Nat) (hx : x < 8) (hy : y < 8) : validB s x y = true := by
  simp only [okI, Bool.and_eq_true, List.all_eq_true] at hv
  exact hv.2.2 ⟨(x, y), hx, hy⟩ (mem_cells _)
theorem dry_out (s : Sh) (hv : okI s = true) (x y : Nat) (hx : x < 8) (hy : y < 8) (h : (s.wide ≤ x ∨ s.high ≤ y)) : s.wet (8 * y + x) = 0 := by
  have h1 := valid_at s hv x y hx hy
  have h2 : hasB s x y = false := by simp [hasB]; omega
  unfold validB at h1
  rw [h2] at h1
  simp [bareB] at h1
  exact h1.1.1
theorem water_eq (s : Sh) (hv : okI s = true) : psumL s (cellsL s.wide.toNat s.high.toNat) = wsum s 64 := by
  have h := hv
  simp only [okI, Bool.and_eq_true, decide_eq_true_eq] at h
  have g := grid_sum s s.wide.toNat (by omega) (fun x y hy h1 h2 => dry_out s hv x y h2 hy (by omega)) s.high.toNat (by omega)
  have r := rest_zero s s.high.toNat (fun i h1 h2 => by
    have := dry_out s hv (i % 8) (i / 8) (by omega) (by omega) (Or.inr (by omega))
    rwa [show 8 * (i / 8) + i % 8 = i by omega] at this) (64 - 8 * s.high.toNat) (by omega)
  rw [show 8 * s.high.toNat + (64 - 8 * s.high.toNat) = 64 by omega] at r
  omega
theorem size_i64 : (Tryd.prog.info? 2).map (·.size) = some 1 := by kernel_rfl
end Go.Proofs.YtflmkhjleifbbaaDoor
namespace Go.Proofs.YtflmkhjleifbbaaDoor
open Go.RowKit
set_option maxRecDepth 100000
set_option linter.unusedVariables false
set_option linter.unusedSimpArgs false
theorem cellRun_like {s T : Sh} (h : Gd s T) : cellRun T = cellRun s := by
  funext U p
  unfold cellRun
  rw [wax_like h, nbs_like h]
theorem runS_like {s T : Sh} (h : Gd s T) (l : List Sp8) : runS T l = l.foldl (cellRun s) (T, 0) := by unfold runS; rw [cellRun_like h]
theorem wsum_congr (A B : Sh) : ∀ k, (∀ i, i < k → A.wet i = B.wet i) → wsum A k = wsum B k
  | 0, _ => rfl
  | k + 1, h => by
    show wsum A k + A.wet k = wsum B k + B.wet k
    rw [wsum_congr A B k (fun i hi => h i (by omega)), h k (by omega)]
theorem wsum_sw (T : Sh) (i : Nat) (v : Int) : ∀ k, wsum (T.sw i v) k = if i < k then wsum T k - T.wet i + v else wsum T k
  | 0 => rfl
  | k + 1 => by
    show wsum (T.sw i v) k + (T.sw i v).wet k = _
    rw [wsum_sw T i v k, sw_wet]
    have e : wsum T (k + 1) = wsum T k + T.wet k := rfl
    rw [e]
    by_cases h1 : k = i
    · subst h1
      rw [if_neg (by omega), if_pos rfl, if_pos (by omega)]; omega
    · rw [if_neg h1]
      by_cases h2 : i < k
      · rw [if_pos h2, if_pos (by omega)]; omega
      · rw [if_neg h2, if_neg (by omega)]
theorem give_sum (T : Sh) (x y u v : Nat) (hx : x < 8) (hy : y < 8) (hu : u < 8) (hv : v < 8) (hne : 8 * y + x ≠ 8 * v + u) : wsum (giveS T x y u v) 64 = wsum T 64 := by
  have e := wsum_congr (giveS T x y u v) ((T.sw (8 * y + x) (T.wet (8 * y + x) - 1)).sw (8 * v + u) (T.wet (8 * v + u) + 1)) 64 (fun i _ => by
    rw [giveS_wet, sw_wet, sw_wet])
  rw [e, wsum_sw, wsum_sw, sw_wet, if_pos (by omega), if_pos (by omega), if_neg (Ne.symm hne)]
  omega
theorem gv_sum {s : Sh} {x y : Nat} (hok : okI s = true) (hx : x < 8) (hy : y < 8) : ∀ (l : List Sp8), (∀ q ∈ l, q ∈ nbs s x y 4) → ∀ T : Sh × Int, wsum (l.foldl (gv x y) T).1 64 = wsum T.1 64
  | [], _, _ => rfl
  | q :: l, hl, T => by
    rw [List.foldl_cons, gv_sum hok hx hy l (fun q hq => hl q (List.mem_cons_of_mem _ hq))]
    obtain ⟨_, hne⟩ := nbs_mem hok hx hy 4 (Nat.le_refl _) (hl q List.mem_cons_self)
    unfold gv
    split
    · exact give_sum T.1 x y q.1.1 q.1.2 hx hy q.2.1 q.2.2 hne
    · rfl
theorem run_sum {s : Sh} (hok : okI s = true) : ∀ (l : List Sp8) (T : Sh × Int), wsum (l.foldl (cellRun s) T).1 64 = wsum T.1 64
  | [], _ => rfl
  | p :: l, T => by
    rw [List.foldl_cons, run_sum hok l]
    unfold cellRun
    split
    · rfl
    · exact gv_sum hok p.2.1 p.2.2 _ (fun _ h => h) T
theorem dry_sum {s B : Sh} : ∀ (l : List Sp8) (T : Sh × Int), wsum (l.foldl (cellDry s B) T).1 64 + (l.foldl (cellDry s B) T).2 = wsum T.1 64 + T.2
  | [], _ => rfl
  | p :: l, T => by
    rw [List.foldl_cons, dry_sum l]
    have := pix_lt p
    show wsum (T.1.sw (pix p) (T.1.wet (pix p) - loss s B p)) 64 + (T.2 + loss s B p) = _
    rw [wsum_sw, if_pos (by omega)]
    omega
theorem dry_none {s B : Sh} (hB : ∀ i, i < 64 → 0 ≤ B.wet i) : ∀ (l : List Sp8) (T : Sh × Int), (l.foldl (cellDry s B) T).2 = T.2 → ∀ p ∈ l, B.wet (pix p) = 0
  | [], _, _, p, hp => by cases hp
  | q :: l, T, h, p, hp => by
    have h1 := (dry_mono (s := s) hB l (cellDry s B T q)).1
    have hb := (loss_bd (s := s) (B := B) (p := q) (hB _ (pix_lt q))).1
    have hs : (cellDry s B T q).2 = T.2 + loss s B q := rfl
    rw [List.foldl_cons] at h
    have h0 : loss s B q = 0 := by omega
    rcases List.mem_cons.1 hp with rfl | hp
    · have := (dryN_bd B (nbs s p.1.1 p.1.2 4)).1
      have := hB _ (pix_lt p)
      unfold loss at h0
      omega
    · exact dry_none (s := s) hB l (cellDry s B T q) (by omega) p hp
theorem psum_none (s : Sh) : ∀ l : List Sp8, (∀ p ∈ l, s.wet (pix p) = 0) → psumL s l = 0
  | [], _ => rfl
  | p :: l, h => by
    have h1 := psum_none s l (fun q hq => h q (List.mem_cons_of_mem _ hq))
    have h2 : s.wet (8 * p.1.2 + p.1.1) = 0 := h p List.mem_cons_self
    show l.foldl _ (0 + s.wet (8 * p.1.2 + p.1.1)) = 0
    rw [psum_from, h1, h2]; rfl
/-- a sheet runs for a round, and dries for one -/
def rdS (s : Sh) (L : List Sp8) : Nat → Sh
  | 0 => s
  | k + 1 => (L.foldl (cellDry s (L.foldl (cellRun s) (rdS s L k, 0)).1) ((L.foldl (cellRun s) (rdS s L k, 0)).1, 0)).1
structure RdIn (s : Sh) (L : List Sp8) : Prop where
  ok : okI s = true
  nodup : (L.map pix).Nodup
  mem : ∀ p ∈ L, hasB s p.1.1 p.1.2 = true
  all : L = cellsL s.wide.toNat s.high.toNat
theorem rd_gd {s : Sh} {L : List Sp8} (h : RdIn s L) (hi : InkOk s) (hf : s.fit) : ∀ k, Gd s (rdS s L k) ∧ Gd s (L.foldl (cellRun s) (rdS s L k, 0)).1
  | 0 => ⟨Gd.start h.ok hi hf, (runS_gd h.ok L h.mem (s, 0) (Gd.start h.ok hi hf)).1⟩
  | k + 1 => by
    have g := rd_gd h hi hf k
    have g1 : Gd s (rdS s L (k + 1)) := g.2.dried (dry_all g.2 h.nodup)
    exact ⟨g1, (runS_gd h.ok L h.mem (rdS s L (k + 1), 0) g1).1⟩
theorem wsum_pos {s T : Sh} (h : Gd s T) : ∀ k : Nat, k ≤ 64 → 0 ≤ wsum T k ∧ wsum T k ≤ 200 * (k : Int)
  | 0, _ => ⟨Int.le_refl 0, Int.le_refl 0⟩
  | k + 1, hk => by
    obtain ⟨h1, h2⟩ := wsum_pos h k (by omega)
    obtain ⟨h3, h4⟩ := wet_pos h k (by omega)
    show 0 ≤ wsum T k + T.wet k ∧ wsum T k + T.wet k ≤ _
    omega
theorem rd_less {s : Sh} {L : List Sp8} (h : RdIn s L) (hi : InkOk s) (hf : s.fit) (k : Nat) (hz : wsum (rdS s L k) 64 ≠ 0) : wsum (rdS s L (k + 1)) 64 < wsum (rdS s L k) 64 := by
  obtain ⟨g1, g2⟩ := rd_gd h hi hf k
  have e1 := run_sum h.ok L (rdS s L k, 0)
  have e2 := dry_sum (s := s) (B := (L.foldl (cellRun s) (rdS s L k, 0)).1) L ((L.foldl (cellRun s) (rdS s L k, 0)).1, 0)
  have hd := dry_none (s := s) (fun i hi => (wet_pos g2 i hi).1) L ((L.foldl (cellRun s) (rdS s L k, 0)).1, 0)
  have hb := (dry_all g2 h.nodup).sum.1
  change wsum (rdS s L (k + 1)) 64 + _ = _ at e2
  by_cases h0 : (L.foldl (cellDry s (L.foldl (cellRun s) (rdS s L k, 0)).1) ((L.foldl (cellRun s) (rdS s L k, 0)).1, 0)).2 = 0
  · exfalso
    have hz2 := psum_none _ L (hd h0)
    have hw := water_eq _ g2.ok
    rw [g2.wide, g2.high, ← h.all, hz2, e1] at hw
    exact hz hw.symm
  · simp only at e1 e2
    omega
theorem rd_end {s : Sh} {L : List Sp8} (h : RdIn s L) (hi : InkOk s) (hf : s.fit) : ∀ (m k : Nat), wsum (rdS s L k) 64 ≤ m → ∃ N, k ≤ N ∧ N ≤ k + m ∧ wsum (rdS s L N) 64 = 0 ∧ ∀ j, k ≤ j → j < N → wsum (rdS s L j) 64 ≠ 0
  | 0, k, hm => ⟨k, Nat.le_refl _, Nat.le_refl _, by have := (wsum_pos (rd_gd h hi hf k).1 64 (Nat.le_refl _)).1; omega, fun j h1 h2 => by omega⟩
  | m + 1, k, hm => by
    by_cases hz : wsum (rdS s L k) 64 = 0
    · exact ⟨k, Nat.le_refl _, by omega, hz, fun j h1 h2 => by omega⟩
    · obtain ⟨N, h1, h2, h3, h4⟩ := rd_end h hi hf m (k + 1) (by have := rd_less h hi hf k hz; omega)
      refine ⟨N, by omega, by omega, h3, fun j hj1 hj2 => ?_⟩
      by_cases hj : j = k
      · rw [hj]; exact hz
      · exact h4 j (by omega) hj2
theorem rd_num {s : Sh} {L : List Sp8} (h : RdIn s L) (hi : InkOk s) (hf : s.fit) : ∃ N, N ≤ 12800 ∧ wsum (rdS s L N) 64 = 0 ∧ ∀ j, j < N → wsum (rdS s L j) 64 ≠ 0 := by
  obtain ⟨N, _, h2, h3, h4⟩ := rd_end h hi hf 12800 0 (by have := (wsum_pos (rd_gd h hi hf 0).1 64 (Nat.le_refl _)).2; omega)
  exact ⟨N, by omega, h3, fun j hj => h4 j (Nat.zero_le _) hj⟩
theorem rd_in {s : Sh} {a c : Nat} (ea : s.wide = a) (ec : s.high = c) (ha : a ≤ 8) (hc : c ≤ 8) (hok : okI s = true) : RdIn s (cellsL a c) := by
  refine ⟨hok, cellsL_pix a c ha hc, fun p hp => ?_, by rw [ea, ec, Int.toNat_natCast, Int.toNat_natCast]⟩
  have h2 : p.1 ∈ pairsL a c := by rw [← cellsL_val a c ha c hc]; exact List.mem_map_of_mem hp
  obtain ⟨h3, h4⟩ := pairsL_mem h2
  unfold hasB
  simp; omega
end Go.Proofs.YtflmkhjleifbbaaDoor
namespace Go.Proofs.YtflmkhjleifbbaaDoor
open Go.RowKit
set_option maxRecDepth 100000
set_option linter.unusedVariables false
set_option linter.unusedSimpArgs false
/-- the sheet behind so many rounds of drying -/
def dryT (s : Sh) (L : List Sp8) : Nat → Sh
  | 0 => s
  | k + 1 => (L.foldl (cellDry s (dryT s L k)) (dryT s L k, 0)).1
theorem dt_gd {s : Sh} {L : List Sp8} (h : RdIn s L) (hi : InkOk s) (hf : s.fit) : ∀ k, Gd s (dryT s L k)
  | 0 => Gd.start h.ok hi hf
  | k + 1 => (dt_gd h hi hf k).dried (dry_all (dt_gd h hi hf k) h.nodup)
theorem dt_gone {s : Sh} {L : List Sp8} (h : RdIn s L) {T : Sh} (g : Gd s T) : (L.foldl (cellDry s T) (T, 0)).2 = 0 ↔ wsum T 64 = 0 := by
  have e2 := dry_sum (s := s) (B := T) L (T, 0)
  have hw := water_eq _ g.ok
  rw [g.wide, g.high, ← h.all] at hw
  constructor
  · intro h0
    rw [← hw]
    exact psum_none _ L (dry_none (s := s) (fun i hi => (wet_pos g i hi).1) L (T, 0) h0)
  · intro h0
    have hb := (dry_all g h.nodup).sum.1
    have hp := (wsum_pos (g.dried (dry_all g h.nodup)) 64 (Nat.le_refl _)).1
    simp only at e2
    omega
theorem dt_less {s : Sh} {L : List Sp8} (h : RdIn s L) (hi : InkOk s) (hf : s.fit) (k : Nat) (hz : wsum (dryT s L k) 64 ≠ 0) : wsum (dryT s L (k + 1)) 64 < wsum (dryT s L k) 64 := by
  have g := dt_gd h hi hf k
  have e2 := dry_sum (s := s) (B := dryT s L k) L (dryT s L k, 0)
  have hb := (dry_all g h.nodup).sum.1
  have hn : (L.foldl (cellDry s (dryT s L k)) (dryT s L k, 0)).2 ≠ 0 := fun h0 => hz ((dt_gone h g).1 h0)
  change wsum (dryT s L (k + 1)) 64 + _ = _ at e2
  simp only at e2
  omega
theorem dt_end {s : Sh} {L : List Sp8} (h : RdIn s L) (hi : InkOk s) (hf : s.fit) : ∀ (m k : Nat), wsum (dryT s L k) 64 ≤ m → ∃ N, k ≤ N ∧ N ≤ k + m ∧ wsum (dryT s L N) 64 = 0 ∧ ∀ j, k ≤ j → j < N → wsum (dryT s L j) 64 ≠ 0
  | 0, k, hm => ⟨k, Nat.le_refl _, Nat.le_refl _, by have := (wsum_pos (dt_gd h hi hf k) 64 (Nat.le_refl _)).1; omega, fun j h1 h2 => by omega⟩
  | m + 1, k, hm => by
    by_cases hz : wsum (dryT s L k) 64 = 0
    · exact ⟨k, Nat.le_refl _, by omega, hz, fun j h1 h2 => by omega⟩
    · obtain ⟨N, h1, h2, h3, h4⟩ := dt_end h hi hf m (k + 1) (by have := dt_less h hi hf k hz; omega)
      refine ⟨N, by omega, by omega, h3, fun j hj1 hj2 => ?_⟩
      by_cases hj : j = k
      · rw [hj]; exact hz
      · exact h4 j (by omega) hj2
theorem dt_num {s : Sh} {L : List Sp8} (h : RdIn s L) (hi : InkOk s) (hf : s.fit) : ∃ N, N ≤ 12800 ∧ wsum (dryT s L N) 64 = 0 ∧ ∀ j, j < N → wsum (dryT s L j) 64 ≠ 0 := by
  obtain ⟨N, _, h2, h3, h4⟩ := dt_end h hi hf 12800 0 (by have := (wsum_pos (dt_gd h hi hf 0) 64 (Nat.le_refl _)).2; omega)
  exact ⟨N, by omega, h3, fun j hj => h4 j (Nat.zero_le _) hj⟩
/-- the rings at the beginning: 0 for a cell that is not waxed -/
def ring0 (s : Sh) (i : Nat) : Int := if i < 64 ∧ hasB s (i % 8) (i / 8) = true ∧ waxB s (i % 8) (i / 8) = false then 0 else -1
/-- the program's: cells are set to 0 one by one -/
def zeroR (l : List Sp8) (r : Nat → Int) : Nat → Int := l.foldl (fun r p => setR r (pix p) 0) r
theorem zeroR_app (l : List Sp8) (p : Sp8) (r : Nat → Int) : zeroR (l ++ [p]) r = setR (zeroR l r) (pix p) 0 := by unfold zeroR; rw [List.foldl_append]; rfl
theorem zeroR_val : ∀ (l : List Sp8) (r : Nat → Int) (i : Nat), (i ∈ l.map pix → zeroR l r i = 0) ∧ (i ∉ l.map pix → zeroR l r i = r i)
  | [], r, i => ⟨fun h => absurd h (by simp), fun _ => rfl⟩
  | q :: l, r, i => by
    obtain ⟨h1, h2⟩ := zeroR_val l (setR r (pix q) 0) i
    have e : zeroR (q :: l) r = zeroR l (setR r (pix q) 0) := rfl
    rw [e, List.map_cons, List.mem_cons]
    by_cases hm : i ∈ l.map pix
    · exact ⟨fun _ => h1 hm, fun h => absurd (.inr hm) h⟩
    · refine ⟨fun h => ?_, fun h => ?_⟩
      · rw [h2 hm]; rcases h with h | h
        · unfold setR; rw [if_pos h]
        · exact absurd h hm
      · rw [h2 hm]; unfold setR; rw [if_neg (fun e => h (.inl e))]
theorem mem_pairsL {a c x y : Nat} (hx : x < a) (hy : y < c) : (x, y) ∈ pairsL a c := by
  simp only [pairsL, List.mem_flatMap, List.mem_range, List.mem_map]
  exact ⟨y, hy, x, hx, rfl⟩
theorem free_mem {s : Sh} {a c : Nat} (ea : s.wide = a) (ec : s.high = c) (ha : a ≤ 8) (hc : c ≤ 8) (i : Nat) (h64 : i < 64) : i ∈ (dryL s (cellsL a c)).map pix ↔ hasB s (i % 8) (i / 8) = true ∧ waxB s (i % 8) (i / 8) = false := by
  constructor
  · intro h
    obtain ⟨p, hp, rfl⟩ := List.mem_map.1 h
    obtain ⟨h1, h2⟩ := List.mem_filter.1 hp
    have hm : p.1 ∈ pairsL a c := by rw [← cellsL_val a c ha c hc]; exact List.mem_map_of_mem h1
    obtain ⟨h3, h4⟩ := pairsL_mem hm
    have b1 := p.2.1; have b2 := p.2.2
    have e1 : pix p % 8 = p.1.1 := by unfold pix; omega
    have e2 : pix p / 8 = p.1.2 := by unfold pix; omega
    rw [e1, e2]
    refine ⟨by unfold hasB; simp; omega, by simpa using h2⟩
  · rintro ⟨h1, h2⟩
    have hb : i % 8 < a ∧ i / 8 < c := by unfold hasB at h1; simp at h1; omega
    have hm : (i % 8, i / 8) ∈ (cellsL a c).map (·.1) := by rw [cellsL_val a c ha c hc]; exact mem_pairsL hb.1 hb.2
    obtain ⟨p, hp, e⟩ := List.mem_map.1 hm
    have e1 : p.1.1 = i % 8 := congrArg Prod.fst e
    have e2 : p.1.2 = i / 8 := congrArg Prod.snd e
    refine List.mem_map.2 ⟨p, List.mem_filter.2 ⟨hp, by rw [e1, e2, h2]; rfl⟩, ?_⟩
    unfold pix; rw [e1, e2]; omega
theorem zeroR_ring0 {s : Sh} {a c : Nat} (ea : s.wide = a) (ec : s.high = c) (ha : a ≤ 8) (hc : c ≤ 8) (i : Nat) (h64 : i < 64) : zeroR (dryL s (cellsL a c)) (fun _ => -1) i = ring0 s i := by
  obtain ⟨h1, h2⟩ := zeroR_val (dryL s (cellsL a c)) (fun _ => -1) i
  have hm := free_mem ea ec ha hc i h64
  unfold ring0
  by_cases h : i ∈ (dryL s (cellsL a c)).map pix
  · rw [h1 h, if_pos ⟨h64, hm.1 h⟩]
  · rw [h2 h, if_neg (fun hc => h (hm.2 hc.2))]
/-- the program's rings behind so many rounds -/
def progR (s : Sh) (L l : List Sp8) : Nat → Nat → Int
  | 0 => zeroR l fun _ => -1
  | k + 1 => incR (dryT s L k) l (progR s L l k)
/-- the model's -/
def modR (s : Sh) (L : List Sp8) : Nat → Nat → Int
  | 0 => ring0 s
  | k + 1 => outR (dryT s L k) (dryT s L (k + 1)) k L (modR s L k)
theorem wax_noWet {s T : Sh} (g : Gd s T) {i : Nat} (h64 : i < 64) (h : ¬ (hasB s (i % 8) (i / 8) = true ∧ waxB s (i % 8) (i / 8) = false)) : T.wet i = 0 := by
  obtain ⟨_, hV⟩ := (okI_iff T).1 g.ok
  have := hV (i % 8) (i / 8) (by omega) (by omega)
  unfold validB at this
  rw [has_like g, wax_like g, show ((i % 8 : Nat) : Int) = (i : Int) % 8 by omega, show ((i / 8 : Nat) : Int) = (i : Int) / 8 by omega] at this
  have e : 8 * (i / 8) + i % 8 = i := by omega
  cases h1 : hasB s (i % 8) (i / 8) <;> cases h2 : waxB s (i % 8) (i / 8) <;> rw [h1, h2] at this <;> simp [bareB, h1, h2] at this h <;> (rw [e] at this; first | exact this.1 | exact this.1.1)
theorem prog_mod {s : Sh} {a c : Nat} (ea : s.wide = a) (ec : s.high = c) (ha : a ≤ 8) (hc : c ≤ 8) (hok : okI s = true) (hi : InkOk s) (hf : s.fit) : ∀ k, RgI (dryL s (cellsL a c)) (dryT s (cellsL a c) k) k (progR s (cellsL a c) (dryL s (cellsL a c)) k) (modR s (cellsL a c) k)
  | 0 => by
    refine ⟨fun p hp => ?_, fun i h64 hm => ⟨zeroR_ring0 ea ec ha hc i h64, wax_noWet (dt_gd (rd_in ea ec ha hc hok) hi hf 0) h64 (fun h => hm ((free_mem ea ec ha hc i h64).2 h))⟩⟩
    have hm : pix p ∈ (dryL s (cellsL a c)).map pix := List.mem_map_of_mem hp
    have e1 : progR s (cellsL a c) (dryL s (cellsL a c)) 0 (pix p) = 0 := (zeroR_val _ _ _).1 hm
    have e2 : modR s (cellsL a c) 0 (pix p) = 0 := by
      have := zeroR_ring0 ea ec ha hc (pix p) (pix_lt p)
      rw [(zeroR_val _ _ _).1 hm] at this
      exact this.symm
    rw [e1, e2]; split <;> rfl
  | k + 1 => by
    have hr := rd_in ea ec ha hc hok
    have g := dt_gd hr hi hf k
    have h := prog_mod ea ec ha hc hok hi hf k
    have hnd : ((dryL s (cellsL a c)).map pix).Nodup := (List.filter_sublist.map pix).nodup hr.nodup
    have hs := RgI.step (s := s) hnd hr.nodup (fun p hp => (List.mem_filter.1 hp).1) (fun i hi => (wet_pos g i hi).1) h
    have e : (dryL s (cellsL a c)).foldl (cellDry s (dryT s (cellsL a c) k)) (dryT s (cellsL a c) k, 0) = (cellsL a c).foldl (cellDry s (dryT s (cellsL a c) k)) (dryT s (cellsL a c) k, 0) := dry_filter g (cellsL a c) hr.mem _
    rw [e] at hs
    exact hs
theorem prog_mod_end {s : Sh} {a c N : Nat} (ea : s.wide = a) (ec : s.high = c) (ha : a ≤ 8) (hc : c ≤ 8) (hok : okI s = true) (hi : InkOk s) (hf : s.fit) (hz : wsum (dryT s (cellsL a c) N) 64 = 0) (i : Nat) (h64 : i < 64) : progR s (cellsL a c) (dryL s (cellsL a c)) N i = modR s (cellsL a c) N i := by
  have hr := rd_in ea ec ha hc hok
  have g := dt_gd hr hi hf N
  refine (prog_mod ea ec ha hc hok hi hf N).done (fun p hp => ?_) i h64
  exact dry_none (s := s) (fun i hi => (wet_pos g i hi).1) (cellsL a c) (dryT s (cellsL a c) N, 0) ((dt_gone hr g).2 hz) p (List.mem_filter.1 hp).1
theorem incR_le (T : Sh) (l : List Sp8) (r : Nat → Int) (hn : (l.map pix).Nodup) (i : Nat) : r i ≤ incR T l r i ∧ incR T l r i ≤ r i + 1 := by
  obtain ⟨h1, h2⟩ := incR_val T l r hn
  by_cases hi : i ∈ l.map pix
  · obtain ⟨p, hp, rfl⟩ := List.mem_map.1 hi
    rw [h1 p hp]; split <;> omega
  · rw [h2 i hi]; omega
theorem progR_le (s : Sh) (L l : List Sp8) (hn : (l.map pix).Nodup) : ∀ (k i : Nat), -1 ≤ progR s L l k i ∧ progR s L l k i ≤ k
  | 0, i => by
    obtain ⟨h1, h2⟩ := zeroR_val l (fun _ => -1) i
    show -1 ≤ zeroR l (fun _ => -1) i ∧ zeroR l (fun _ => -1) i ≤ _
    by_cases hi : i ∈ l.map pix
    · rw [h1 hi]; simp
    · rw [h2 hi]; simp
  | k + 1, i => by
    have h := progR_le s L l hn k i
    have h2 := incR_le (dryT s L k) l (progR s L l k) hn i
    show -1 ≤ incR _ l _ i ∧ incR _ l _ i ≤ _
    omega
theorem progR_top {s : Sh} {a c N : Nat} (ea : s.wide = a) (ec : s.high = c) (ha : a ≤ 8) (hc : c ≤ 8) (hok : okI s = true) (hi : InkOk s) (hf : s.fit) (hN : wsum (dryT s (cellsL a c) N) 64 ≠ 0) : ∃ p ∈ cellsL a c, progR s (cellsL a c) (dryL s (cellsL a c)) (N + 1) (pix p) = (N + 1 : Nat) := by
  have hr := rd_in ea ec ha hc hok
  have g := dt_gd hr hi hf N
  have hnd : ((dryL s (cellsL a c)).map pix).Nodup := (List.filter_sublist.map pix).nodup hr.nodup
  have hw := water_eq _ g.ok
  rw [g.wide, g.high, ← hr.all] at hw
  have hex : ∃ p ∈ cellsL a c, (dryT s (cellsL a c) N).wet (pix p) ≠ 0 := by
    by_cases h : ∃ p ∈ cellsL a c, (dryT s (cellsL a c) N).wet (pix p) ≠ 0
    · exact h
    · exfalso
      refine hN (hw ▸ psum_none _ _ fun p hp => ?_)
      by_cases h0 : (dryT s (cellsL a c) N).wet (pix p) = 0
      · exact h0
      · exact absurd ⟨p, hp, h0⟩ h
  obtain ⟨p, hp, h0⟩ := hex
  have hpos : 0 < (dryT s (cellsL a c) N).wet (pix p) := by have := (wet_pos g (pix p) (pix_lt p)).1; omega
  have hl : pix p ∈ (dryL s (cellsL a c)).map pix := (free_mem ea ec ha hc _ (pix_lt p)).2 (by
    by_cases h : hasB s (pix p % 8) (pix p / 8) = true ∧ waxB s (pix p % 8) (pix p / 8) = false
    · exact h
    · exact absurd (wax_noWet g (pix_lt p) h) h0)
  obtain ⟨q, hq, e⟩ := List.mem_map.1 hl
  have h1 := (prog_mod ea ec ha hc hok hi hf N).1 q hq
  rw [e, if_pos hpos] at h1
  have h2 := (incR_val (dryT s (cellsL a c) N) _ (progR s (cellsL a c) (dryL s (cellsL a c)) N) hnd).1 q hq
  rw [e, if_pos hpos, h1] at h2
  refine ⟨p, hp, ?_⟩
  show incR _ _ _ (pix p) = _
  rw [h2]; push_cast; rfl
/-- the greatest of some numbers -/
theorem best_fold (f : Nat → Nat → Int) : ∀ (l : List Sp8) (b : (Nat × Nat) × Int), b.2 ≤ (l.foldl (bestStep f) b).2 ∧ (∀ p ∈ l, f p.1.1 p.1.2 ≤ (l.foldl (bestStep f) b).2) ∧ ∀ M, b.2 ≤ M → (∀ p ∈ l, f p.1.1 p.1.2 ≤ M) → (l.foldl (bestStep f) b).2 ≤ M
  | [], b => ⟨Int.le_refl _, fun p h => absurd h (by simp), fun M h _ => h⟩
  | q :: l, b => by
    obtain ⟨h1, h2, h3⟩ := best_fold f l (bestStep f b q)
    have hs : b.2 ≤ (bestStep f b q).2 ∧ f q.1.1 q.1.2 ≤ (bestStep f b q).2 ∧ ∀ M, b.2 ≤ M → f q.1.1 q.1.2 ≤ M → (bestStep f b q).2 ≤ M := by
      unfold bestStep
      split
      · exact ⟨by simp only; omega, by simp, fun M _ h => h⟩
      · exact ⟨by simp, by omega, fun M h _ => h⟩
    rw [List.foldl_cons]
    refine ⟨by omega, fun p hp => ?_, fun M hb hM => h3 M (hs.2.2 M hb (hM q (List.mem_cons_self ..))) fun p hp => hM p (List.mem_cons_of_mem _ hp)⟩
    rcases List.mem_cons.1 hp with rfl | hp
    · omega
    · exact h2 p hp
/-- the start does not matter where a number is greater than 0 -/
theorem best_start (f : Nat → Nat → Int) : ∀ (l : List Sp8) (b b' : (Nat × Nat) × Int), b.2 ≤ 0 → b'.2 = 0 → 0 < (l.foldl (bestStep f) b').2 → l.foldl (bestStep f) b = l.foldl (bestStep f) b'
  | [], b, b', _, h2, h3 => by simp only [List.foldl_nil] at h3; omega
  | q :: l, b, b', h1, h2, h3 => by
    rw [List.foldl_cons] at h3 ⊢
    rw [List.foldl_cons]
    by_cases hq : 0 < f q.1.1 q.1.2
    · have e1 : bestStep f b q = (q.1, f q.1.1 q.1.2) := by unfold bestStep; rw [if_pos (by omega)]
      have e2 : bestStep f b' q = (q.1, f q.1.1 q.1.2) := by unfold bestStep; rw [if_pos (by omega)]
      rw [e1, e2]
    · have e2 : bestStep f b' q = b' := by unfold bestStep; rw [if_neg (by omega)]
      rw [e2] at h3 ⊢
      refine best_start f l _ _ ?_ h2 h3
      unfold bestStep; split
      · simp only; omega
      · exact h1
/-- the numbers of the rings, by column and row -/
def rgF (r : Nat → Int) (x y : Nat) : Int := r (8 * y + x)
theorem best_N {s : Sh} {a c N : Nat} (ea : s.wide = a) (ec : s.high = c) (ha : a ≤ 8) (hc : c ≤ 8) (hok : okI s = true) (hi : InkOk s) (hf : s.fit) (hnz : ∀ j, j < N → wsum (dryT s (cellsL a c) j) 64 ≠ 0) : (best (rgF (progR s (cellsL a c) (dryL s (cellsL a c)) N)) (cellsL a c)).2 = N := by
  have hr := rd_in ea ec ha hc hok
  have hnd : ((dryL s (cellsL a c)).map pix).Nodup := (List.filter_sublist.map pix).nodup hr.nodup
  obtain ⟨h1, h2, h3⟩ := best_fold (rgF (progR s (cellsL a c) (dryL s (cellsL a c)) N)) (cellsL a c) ((0, 0), 0)
  have hle := h3 N (by simp) fun p hp => (progR_le s (cellsL a c) _ hnd N _).2
  unfold best
  cases N with
  | zero => simp only at h1; omega
  | succ M =>
    obtain ⟨p, hp, e⟩ := progR_top ea ec ha hc hok hi hf (hnz M (by omega))
    have := h2 p hp
    change progR s (cellsL a c) (dryL s (cellsL a c)) (M + 1) (pix p) ≤ _ at this
    omega
end Go.Proofs.YtflmkhjleifbbaaDoor
namespace Go.Proofs.YtflmkhjleifbbaaDoor
open Go.RowKit
set_option maxRecDepth 100000
set_option linter.unusedVariables false
set_option linter.unusedSimpArgs false
theorem rgf_at (r : Nat → Int) (x y : Nat) : rgf r (y * 8 + x) = .int .i16 (rgF r x y) := by unfold rgf rgF; rw [Nat.mul_comm y 8]
set_option maxHeartbeats 1000000 in
theorem Rg_any (r : Nat → Int) (b : Nat) (x y : Nat) (w : World) (hs : w.heap[b]? = some (.cells (vrow 64 (rgf r)) 37)) (hr : ∀ i, -1 ≤ r i ∧ r i ≤ 12800) (hx : x < 8) (hy : y < 8) : Calls Tryd.prog 49 #[.agg #[.int .i8 x, .int .i8 y], .pointer (some ⟨b, 0, none⟩)] w fun e w' => e = .returned (.int .i64 (rgF r x y)) ∧ Below w.heap.size w w' := by
  have hwb : -1 ≤ rgF r x y ∧ rgF r x y ≤ 12800 := hr (8 * y + x)
  have hxI : (x : Int) < 8 := by omega
  have hyI : (y : Int) < 8 := by omega
  have RF := Go.Lib.hid (rgf_at r x y)
  generalize rgF r x y = rv at *
  rw [sp_vrow]
  have hB : Hid (Below w.heap.size w (w.alloc (.cells (vrow 2 (spAt x y)) 42))) := ((Below.refl w.heap.size w).alloc (by simp <;> omega) _)
  have R : Hid ((w.alloc (.cells (vrow 2 (spAt x y)) 42)).heap[(w.heap.size)]? = some (.cells (vrow 2 (spAt x y)) 42)) := heap_at _ _ _ (by simp)
  have P : Hid ((w.alloc (.cells (vrow 2 (spAt x y)) 42)).heap[b]? = some (.cells (vrow 64 (rgf r)) 37)) := heap_past _ _ _ _ (by first | (have := row_lt hs; omega) | (have := row_lt hs; simp <;> omega)) (hs)
  go_enter Tryd.func49, Tryd.ntmps49
  go_wp2
  (refine region_at (by kernel_rfl) (by kernel_rfl) ?_; intro W hW; rw [hW] at hB P R; clear hW; have P' := Go.Lib.hid (cls_row' P.out); have R' := Go.Lib.hid (cls_row' R.out); (repeat (first | go_big_quiet_skip | (refine wpQuiet_load1 23 _ rfl (by first | exact want_n rfl | exact want_g _ _ _ rfl rfl rfl) b _ rfl 64 (rgf r) _ rw_i16 P'.out (by omega) ?_; (try simp only [Nat.zero_add, Nat.mul_one]); rw [RF.out]; simp only [Act.put, List.setIfInBounds_toArray, List.set_cons_succ, List.set_cons_zero]) | (refine wpQuiet_load1 22 _ rfl (by first | exact want_n rfl | exact want_g _ _ _ rfl rfl rfl) (w.heap.size) _ rfl 2 (spAt x y) _ rw_i8 R'.out (by omega) ?_; (first | rw [spAt_0] | rw [spAt_1]); simp only [Act.put, List.setIfInBounds_toArray, List.set_cons_succ, List.set_cons_zero]) | go_big_quiet_step (fail))); refine wpQuiet_nil ?_; intro Wn hb; replace P := Go.Lib.hid (row_next hb P.out); replace R := Go.Lib.hid (row_next hb R.out); replace hB := Go.Lib.hid (below_next hB.out hb); clear hb P' R')
  go_wp2
  go_ret
  exact ⟨rfl, hB.out⟩
attribute [local go_sem] Oper.semAt_some
set_option maxRecDepth 100000 in
set_option maxHeartbeats 4000000 in
theorem firstRg (s : Sh) (r : Nat → Int) (b : Nat) (e : ErrE) (w : World) (hE : Err6 e w) (hs : w.heap[b]? = some (.cells (vrow 64 (rgf r)) 37)) (hr : ∀ i, -1 ≤ r i ∧ r i ≤ 12800) (h1 : 1 ≤ s.wide) (h2 : s.wide ≤ 8) (h3 : 1 ≤ s.high) (h4 : s.high ≤ 8)
    (hV : ∀ x y, x < 8 → y < 8 → -1 ≤ (rgF r) x y ∧ (rgF r) x y ≤ 4000000) : Calls Tryd.prog 48 #[.agg s.row, .func (.func 49) #[] #[.pointer (some ⟨b, 0, none⟩)]] w fun o w' => o = .returned (firstRes (errP e 6) (best (rgF r) (cellsL s.wide.toNat s.high.toNat))) ∧ Below w.heap.size w w' := by
  obtain ⟨a, ha⟩ : ∃ a : Nat, s.wide = a := ⟨s.wide.toNat, by omega⟩
  obtain ⟨c, hc⟩ : ∃ c : Nat, s.high = c := ⟨s.high.toNat, by omega⟩
  have ea : s.wide.toNat = a := by omega
  have ec : s.high.toNat = c := by omega
  rw [ea, ec]
  have zs := zero_spot
  have HC := Go.Lib.hid fun x y w hs hx hy => Rg_any r b x y w hs hr hx hy
  have HV := Go.Lib.hid hV
  have BD := Go.Lib.hid (best_bd (rgF r) 4000000 (by omega) (fun x y hx hy => (hV x y hx hy).2))
  clear hV
  have hB : Hid (Below w.heap.size w (((((w.alloc (.cells (vrow 266 s.at) 34)).alloc (.cells #[.func (.func 49) #[] #[.pointer (some ⟨b, 0, none⟩)]] 84)).alloc (.cells (vrow 2 (spAt 0 0)) 42)).alloc (.cells (vrow 2 (spAt 0 0)) 42)).alloc (.cells #[.int .i64 0] 2))) := ((((((Below.refl w.heap.size w).alloc (by simp <;> omega) _).alloc (by simp <;> omega) _).alloc (by simp <;> omega) _).alloc (by simp <;> omega) _).alloc (by simp <;> omega) _)
  have P : Hid ((((((w.alloc (.cells (vrow 266 s.at) 34)).alloc (.cells #[.func (.func 49) #[] #[.pointer (some ⟨b, 0, none⟩)]] 84)).alloc (.cells (vrow 2 (spAt 0 0)) 42)).alloc (.cells (vrow 2 (spAt 0 0)) 42)).alloc (.cells #[.int .i64 0] 2)).heap[(w.heap.size)]? = some (.cells (vrow 266 s.at) 34)) := heap_past _ _ _ _ (by first | omega | (simp <;> omega)) (heap_past _ _ _ _ (by first | omega | (simp <;> omega)) (heap_past _ _ _ _ (by first | omega | (simp <;> omega)) (heap_past _ _ _ _ (by first | omega | (simp <;> omega)) (heap_at _ _ _ (by simp)))))
  have FN : Hid ((((((w.alloc (.cells (vrow 266 s.at) 34)).alloc (.cells #[.func (.func 49) #[] #[.pointer (some ⟨b, 0, none⟩)]] 84)).alloc (.cells (vrow 2 (spAt 0 0)) 42)).alloc (.cells (vrow 2 (spAt 0 0)) 42)).alloc (.cells #[.int .i64 0] 2)).heap[(w.heap.size + 1)]? = some (.cells (vrow 1 (fun _ => .func (.func 49) #[] #[.pointer (some ⟨b, 0, none⟩)])) 84)) := heap_past _ _ _ _ (by first | omega | (simp <;> omega)) (heap_past _ _ _ _ (by first | omega | (simp <;> omega)) (heap_past _ _ _ _ (by first | omega | (simp <;> omega)) (heap_at _ _ _ (by simp))))
  have Z : Hid ((((((w.alloc (.cells (vrow 266 s.at) 34)).alloc (.cells #[.func (.func 49) #[] #[.pointer (some ⟨b, 0, none⟩)]] 84)).alloc (.cells (vrow 2 (spAt 0 0)) 42)).alloc (.cells (vrow 2 (spAt 0 0)) 42)).alloc (.cells #[.int .i64 0] 2)).heap[(w.heap.size + 1 + 1)]? = some (.cells (vrow 2 (spAt 0 0)) 42)) := heap_past _ _ _ _ (by first | omega | (simp <;> omega)) (heap_past _ _ _ _ (by first | omega | (simp <;> omega)) (heap_at _ _ _ (by simp)))
  have V : Hid ((((((w.alloc (.cells (vrow 266 s.at) 34)).alloc (.cells #[.func (.func 49) #[] #[.pointer (some ⟨b, 0, none⟩)]] 84)).alloc (.cells (vrow 2 (spAt 0 0)) 42)).alloc (.cells (vrow 2 (spAt 0 0)) 42)).alloc (.cells #[.int .i64 0] 2)).heap[(w.heap.size + 1 + 1 + 1)]? = some (.cells (vrow 2 (spAt 0 0)) 42)) := heap_past _ _ _ _ (by first | omega | (simp <;> omega)) (heap_at _ _ _ (by simp))
  have M : Hid ((((((w.alloc (.cells (vrow 266 s.at) 34)).alloc (.cells #[.func (.func 49) #[] #[.pointer (some ⟨b, 0, none⟩)]] 84)).alloc (.cells (vrow 2 (spAt 0 0)) 42)).alloc (.cells (vrow 2 (spAt 0 0)) 42)).alloc (.cells #[.int .i64 0] 2)).heap[(w.heap.size + 1 + 1 + 1 + 1)]? = some (.cells (vrow 1 (fun _ => .int .i64 0)) 2)) := heap_at _ _ _ (by simp)
  have S : Hid ((((((w.alloc (.cells (vrow 266 s.at) 34)).alloc (.cells #[.func (.func 49) #[] #[.pointer (some ⟨b, 0, none⟩)]] 84)).alloc (.cells (vrow 2 (spAt 0 0)) 42)).alloc (.cells (vrow 2 (spAt 0 0)) 42)).alloc (.cells #[.int .i64 0] 2)).heap[b]? = some (.cells (vrow 64 (rgf r)) 37)) := heap_past _ _ _ _ (by first | (have := row_lt hs; omega) | (have := row_lt hs; simp <;> omega)) (heap_past _ _ _ _ (by first | (have := row_lt hs; omega) | (have := row_lt hs; simp <;> omega)) (heap_past _ _ _ _ (by first | (have := row_lt hs; omega) | (have := row_lt hs; simp <;> omega)) (heap_past _ _ _ _ (by first | (have := row_lt hs; omega) | (have := row_lt hs; simp <;> omega)) (heap_past _ _ _ _ (by first | (have := row_lt hs; omega) | (have := row_lt hs; simp <;> omega)) (hs)))))
  have E : Hid (Err6 e (((((w.alloc (.cells (vrow 266 s.at) 34)).alloc (.cells #[.func (.func 49) #[] #[.pointer (some ⟨b, 0, none⟩)]] 84)).alloc (.cells (vrow 2 (spAt 0 0)) 42)).alloc (.cells (vrow 2 (spAt 0 0)) 42)).alloc (.cells #[.int .i64 0] 2))) := (((((hE).alloc _).alloc _).alloc _).alloc _).alloc _
  refine (callsIn_wide (n := 9)).1 ?_
  refine callsIn_of_wp_marks Tryd.func48 rfl trivial ?_ rfl
  simp only [Tryd.ntmps48, List.size_toArray, List.length_cons, List.length_nil, Nat.reduceAdd, Nat.reduceSub, Array.replicate_succ, Array.replicate_zero, List.push_toArray, List.append_toArray, List.nil_append, List.cons_append]
  refine wpIn_wide.2 ?_
  go_wp2_with (first
    | (refine wpList_load1 rfl 22 _ rfl (w.heap.size) _ rfl 266 s.at _ _ Tryd.underlying22 rfl P.out (by omega) ?_; (first | rw [Sh.at_0] | rw [Sh.at_1]); simp only [Act.put, List.setIfInBounds_toArray, List.set_cons_succ, List.set_cons_zero])
    | (go_at_call 59; refine (cells_any _ _ _).mono ?_; rintro e w1 ⟨rfl, rfl⟩)
    | (refine wpList_storeall rfl 42 (.tmp 7) (.tmp 11) rfl (w.heap.size + 3) rfl 2 (spAt 0 0) (spAt 0 0) rfl 42 size_spot V.out (fun i _ => spAt_one _ _ i) ?_; rw [setRow_self V.out])
    | (refine wpList_store1 rfl 2 (.tmp 8) (.const (.int .i64 0)) rfl (w.heap.size + 4) 0 rfl 1 (fun _ => .int .i64 0) (.int .i64 0) rfl 2 size_int64 M.out (by omega) rfl ?_; rw [vrow_over_all, setRow_self M.out]))
  generalize hWn : (((((w.alloc (.cells s.row 34)).alloc (.cells #[.func (.func 49) #[] #[.pointer (some ⟨b, 0, none⟩)]] 84)).alloc (.cells (vrow 2 (spAt 0 0)) 42)).alloc (.cells (vrow 2 (spAt 0 0)) 42)).alloc (.cells #[.int .i64 0] 2)) = Wn at hB P FN Z V M S E ⊢
  have hws : Wn.heap.size = w.heap.size + 1 + 1 + 1 + 1 + 1 := by rw [← hWn]; simp
  clear hWn
  have hn := row_lt S.out
  have hbs := row_lt hs
  have hgl := row_lt hE.v6
  have c1 := heap_at (Wn.alloc (.cells #[.int .i8 a] 22)) (.cells #[.int .i8 c] 22) (Wn.heap.size + 1) (by simp)
  have c2 := heap_past (Wn.alloc (.cells #[.int .i8 a] 22)) (.cells #[.int .i8 c] 22) _ Wn.heap.size (by simp) (heap_at Wn (.cells #[.int .i8 a] 22) _ rfl)
  have hB1 : Below Wn.heap.size Wn ((Wn.alloc (.cells #[.int .i8 a] 22)).alloc (.cells #[.int .i8 c] 22)) := ((Below.refl _ _).alloc (Nat.le_refl _) _).alloc (by simp) _
  obtain ⟨W0, hW0⟩ : ∃ W0, (Wn.alloc (.cells #[.int .i8 a] 22)).alloc (.cells #[.int .i8 c] 22) = W0 := ⟨_, rfl⟩
  rw [hW0] at c1 c2 hB1 ⊢
  clear hW0
  rw [hws] at c1 c2
  replace FN := row_next hB1 FN.out; replace Z := row_next hB1 Z.out; replace V := row_next hB1 V.out; replace M := row_next hB1 M.out; replace S := row_next hB1 S.out; replace hB := below_next hB.out hB1
  clear P E hB1 hws
  have hs0 := row_lt c1
  refine wp_cells (d := 9) (w.heap.size + 1 + 1 + 1 + 1 + 1 + 1) (w.heap.size + 1 + 1 + 1 + 1 + 1) a c (by omega) (by omega) rfl c1 c2
    (fun pre W => W.heap[w.heap.size + 1]? = some (.cells (vrow 1 fun _ => .func (.func 49) #[] #[.pointer (some ⟨b, 0, none⟩)]) 84) ∧ W.heap[w.heap.size + 2]? = some (.cells (vrow 2 (spAt 0 0)) 42) ∧ W.heap[w.heap.size + 3]? = some (.cells (vrow 2 (spAt (best (rgF r) pre).1.1 (best (rgF r) pre).1.2)) 42) ∧ W.heap[w.heap.size + 4]? = some (.cells (vrow 1 fun _ => .int .i64 (best (rgF r) pre).2) 2) ∧ W.heap[b]? = some (.cells (vrow 64 (rgf r)) 37) ∧ Below w.heap.size w W)
    (fun _ _ _ => False)
    (OwnFrom.and (own_row (by omega)) (OwnFrom.and (own_row (by omega)) (OwnFrom.and (own_rowD (o := fun pre => .cells (vrow 2 (spAt (best (rgF r) pre).1.1 (best (rgF r) pre).1.2)) 42) (by omega)) (OwnFrom.and (own_rowD (o := fun pre => .cells (vrow 1 fun _ => .int .i64 (best (rgF r) pre).2) 2) (by omega)) (OwnFrom.and (own_row (by omega)) (ownFrom_below (Nat.le_refl _) (by omega)))))))
    (fun c => own_pure _)
    ⟨FN, Z, V, M, S, hB⟩ ?assign ?body ?done ?stop
  case assign =>
    intro l x W K hK
    simp only [List.setIfInBounds_toArray, List.set_cons_succ, List.set_cons_zero] at hK ⊢
    gi_wp2_with (refine wpListIn_storeall rfl 42 (.tmp 9) (.tmp 17) rfl _ rfl 2 (spAt 0 0) (spAt x.1.1 x.1.2) rfl 42 size_spot (heap_at _ _ _ rfl) (fun i _ => spAt_one _ _ i) ?_; rw [setRow_at _ _ _ _ _ rfl])
    exact hK
  case body =>
    rintro l pre ⟨⟨x, y⟩, hx, hy⟩ Wb W Bx hK hBx R hsz ⟨FN, Z, V, M, S, hB⟩ hlen
    simp only [List.setIfInBounds_toArray, List.set_cons_succ, List.set_cons_zero] at R ⊢
    obtain ⟨v1, v2⟩ := HV.out x y hx hy
    obtain ⟨g1, g2⟩ := BD.out pre
    have hap := best_app (rgF r) pre ⟨(x, y), hx, hy⟩
    generalize best (rgF r) pre = bp at *
    replace R := Go.Lib.hid R; replace FN := Go.Lib.hid FN; replace Z := Go.Lib.hid Z; replace V := Go.Lib.hid V; replace M := Go.Lib.hid M; replace S := Go.Lib.hid S; replace hB := Go.Lib.hid hB; replace hK := Go.Lib.hid hK; replace hap := Go.Lib.hid hap
    have hle := row_lt R.out
    by_cases hgt : bp.2 < (rgF r) x y
    · have hdec : decide (bp.2 < (rgF r) x y) = true := by simpa using hgt
      gi_wp2_with (first
        | (refine loadallIn rfl 42 (.tmp 9) rfl _ rfl 2 (spAt x y) 42 _ Tryd.underlying42 rfl size_spot R.out ?_)
        | (refine wpListIn_storeall rfl 42 (.tmp 7) (.tmp 24) rfl (w.heap.size + 3) rfl 2 (spAt bp.1.1 bp.1.2) (spAt x y) rfl 42 size_spot V.out (fun i _ => spAt_one _ _ i) ?_)
        | (refine wpListIn_store1 rfl 2 (.tmp 8) (.tmp 25) rfl (w.heap.size + 4) 0 rfl 1 (fun _ => .int .i64 bp.2) (.int .i64 ((rgF r) x y)) rfl 2 size_int64 (row_set' (by omega) M.out _) (by omega) rfl ?_; rw [vrow_over_all])
        | (gi_at_call 49; (refine (callsFW (ro := some _) (HC.out x y _ S.out hx hy)).mono ?_; rintro e w1 ⟨rfl, hb⟩; replace FN := Go.Lib.hid (row_next hb FN.out); replace R := Go.Lib.hid (row_next hb R.out); replace Z := Go.Lib.hid (row_next hb Z.out); replace V := Go.Lib.hid (row_next hb V.out); replace M := Go.Lib.hid (row_next hb M.out); replace S := Go.Lib.hid (row_next hb S.out); replace hB := Go.Lib.hid (below_next hB.out hb); replace hK := Go.Lib.hid (below_next hK.out hb); clear hb ))
        | (refine list_atI 18 rfl ?_; intro W hW; rw [hW] at hB hK FN R Z V M S; clear hW; have FN' := Go.Lib.hid (cls_row' FN.out); have R' := Go.Lib.hid (cls_row' R.out); have Z' := Go.Lib.hid (cls_row' Z.out); have V' := Go.Lib.hid (cls_row' V.out); have M' := Go.Lib.hid (cls_row' M.out); have S' := Go.Lib.hid (cls_row' S.out); (repeat (first | go_big_quiet_skip | (refine wpQuiet_load1 84 _ rfl (by first | exact want_n rfl | exact want_g _ _ _ rfl rfl rfl) (w.heap.size + 1) _ rfl 1 (fun _ => .func (.func 49) #[] #[.pointer (some ⟨b, 0, none⟩)]) _ rw_fn FN'.out (by omega) ?_; skip; simp only [Act.put, List.setIfInBounds_toArray, List.set_cons_succ, List.set_cons_zero]) | (refine wpQuiet_loadmid 42 _ rfl (by first | exact want_n rfl | exact want_g _ _ _ rfl rfl rfl) Bx _ rfl 2 2 (spAt x y) _ rw_spot size_spot R'.out (by omega) ?_; rw [sp_row]; simp only [Act.put, List.setIfInBounds_toArray, List.set_cons_succ, List.set_cons_zero]) | (refine wpQuiet_load1 2 _ rfl (by first | exact want_n rfl | exact want_g _ _ _ rfl rfl rfl) (w.heap.size + 4) _ rfl 1 (fun _ => .int .i64 bp.2) _ rw_int64 M'.out (by omega) ?_; skip; simp only [Act.put, List.setIfInBounds_toArray, List.set_cons_succ, List.set_cons_zero]) | go_big_quiet_step ((go_at_call 49; exact cls_call _ (fun w hw => HC.out x y w (row_next hw S.out) hx hy))))); refine wpQuiet_nil ?_; intro Wn hb; replace FN := Go.Lib.hid (row_next hb FN.out); replace R := Go.Lib.hid (row_next hb R.out); replace Z := Go.Lib.hid (row_next hb Z.out); replace V := Go.Lib.hid (row_next hb V.out); replace M := Go.Lib.hid (row_next hb M.out); replace S := Go.Lib.hid (row_next hb S.out); replace hB := Go.Lib.hid (below_next hB.out hb); replace hK := Go.Lib.hid (below_next hK.out hb); clear hb FN' R' Z' V' M' S')
        | (refine list_atI 22 rfl ?_; intro W hW; rw [hW] at hB hK FN R Z V M S; clear hW; have FN' := Go.Lib.hid (cls_row' FN.out); have R' := Go.Lib.hid (cls_row' R.out); have Z' := Go.Lib.hid (cls_row' Z.out); have V' := Go.Lib.hid (cls_row' V.out); have M' := Go.Lib.hid (cls_row' M.out); have S' := Go.Lib.hid (cls_row' S.out); (repeat (first | go_big_quiet_skip | (refine wpQuiet_load1 84 _ rfl (by first | exact want_n rfl | exact want_g _ _ _ rfl rfl rfl) (w.heap.size + 1) _ rfl 1 (fun _ => .func (.func 49) #[] #[.pointer (some ⟨b, 0, none⟩)]) _ rw_fn FN'.out (by omega) ?_; skip; simp only [Act.put, List.setIfInBounds_toArray, List.set_cons_succ, List.set_cons_zero]) | (refine wpQuiet_loadmid 42 _ rfl (by first | exact want_n rfl | exact want_g _ _ _ rfl rfl rfl) Bx _ rfl 2 2 (spAt x y) _ rw_spot size_spot R'.out (by omega) ?_; rw [sp_row]; simp only [Act.put, List.setIfInBounds_toArray, List.set_cons_succ, List.set_cons_zero]) | (refine wpQuiet_load1 2 _ rfl (by first | exact want_n rfl | exact want_g _ _ _ rfl rfl rfl) (w.heap.size + 4) _ rfl 1 (fun _ => .int .i64 bp.2) _ rw_int64 M'.out (by omega) ?_; skip; simp only [Act.put, List.setIfInBounds_toArray, List.set_cons_succ, List.set_cons_zero]) | go_big_quiet_step ((go_at_call 49; exact cls_call _ (fun w hw => HC.out x y w (row_next hw S.out) hx hy))))); refine wpQuiet_nil ?_; intro Wn hb; replace FN := Go.Lib.hid (row_next hb FN.out); replace R := Go.Lib.hid (row_next hb R.out); replace Z := Go.Lib.hid (row_next hb Z.out); replace V := Go.Lib.hid (row_next hb V.out); replace M := Go.Lib.hid (row_next hb M.out); replace S := Go.Lib.hid (row_next hb S.out); replace hB := Go.Lib.hid (below_next hB.out hb); replace hK := Go.Lib.hid (below_next hK.out hb); clear hb FN' R' Z' V' M' S'))
      exact ⟨((keeps_below hK.out).trans (keeps_setRow V.out (vrow 2 (spAt x y)))).trans (keeps_setRow (row_set' (by omega) M.out (vrow 2 (spAt x y))) (vrow 1 fun _ => .int .i64 ((rgF r) x y))), ((Kp2.of_lt hK.out (by omega) (by omega)).setRow (by omega) (by omega) _).setRow (by omega) (by omega) _,
        row_set' (by omega) (row_set' (by omega) FN.out _) _, row_set' (by omega) (row_set' (by omega) Z.out _) _, by rw [hap.out, bestStep, if_pos (by exact hgt)]; exact row_set' (by omega) (row_set V.out _) _, by rw [hap.out, bestStep, if_pos (by exact hgt)]; exact row_set (row_set' (by omega) M.out _) _, row_set' (by omega) (row_set' (by omega) S.out _) _, Below_setRow (Below_setRow hB.out (by omega) _) (by omega) _⟩
    · have hdec : decide (bp.2 < (rgF r) x y) = false := by simpa using hgt
      gi_wp2_with (first
        | (gi_at_call 49; (refine (callsFW (ro := some _) (HC.out x y _ S.out hx hy)).mono ?_; rintro e w1 ⟨rfl, hb⟩; replace FN := Go.Lib.hid (row_next hb FN.out); replace R := Go.Lib.hid (row_next hb R.out); replace Z := Go.Lib.hid (row_next hb Z.out); replace V := Go.Lib.hid (row_next hb V.out); replace M := Go.Lib.hid (row_next hb M.out); replace S := Go.Lib.hid (row_next hb S.out); replace hB := Go.Lib.hid (below_next hB.out hb); replace hK := Go.Lib.hid (below_next hK.out hb); clear hb ))
        | (refine list_atI 18 rfl ?_; intro W hW; rw [hW] at hB hK FN R Z V M S; clear hW; have FN' := Go.Lib.hid (cls_row' FN.out); have R' := Go.Lib.hid (cls_row' R.out); have Z' := Go.Lib.hid (cls_row' Z.out); have V' := Go.Lib.hid (cls_row' V.out); have M' := Go.Lib.hid (cls_row' M.out); have S' := Go.Lib.hid (cls_row' S.out); (repeat (first | go_big_quiet_skip | (refine wpQuiet_load1 84 _ rfl (by first | exact want_n rfl | exact want_g _ _ _ rfl rfl rfl) (w.heap.size + 1) _ rfl 1 (fun _ => .func (.func 49) #[] #[.pointer (some ⟨b, 0, none⟩)]) _ rw_fn FN'.out (by omega) ?_; skip; simp only [Act.put, List.setIfInBounds_toArray, List.set_cons_succ, List.set_cons_zero]) | (refine wpQuiet_loadmid 42 _ rfl (by first | exact want_n rfl | exact want_g _ _ _ rfl rfl rfl) Bx _ rfl 2 2 (spAt x y) _ rw_spot size_spot R'.out (by omega) ?_; rw [sp_row]; simp only [Act.put, List.setIfInBounds_toArray, List.set_cons_succ, List.set_cons_zero]) | (refine wpQuiet_load1 2 _ rfl (by first | exact want_n rfl | exact want_g _ _ _ rfl rfl rfl) (w.heap.size + 4) _ rfl 1 (fun _ => .int .i64 bp.2) _ rw_int64 M'.out (by omega) ?_; skip; simp only [Act.put, List.setIfInBounds_toArray, List.set_cons_succ, List.set_cons_zero]) | go_big_quiet_step ((go_at_call 49; exact cls_call _ (fun w hw => HC.out x y w (row_next hw S.out) hx hy))))); refine wpQuiet_nil ?_; intro Wn hb; replace FN := Go.Lib.hid (row_next hb FN.out); replace R := Go.Lib.hid (row_next hb R.out); replace Z := Go.Lib.hid (row_next hb Z.out); replace V := Go.Lib.hid (row_next hb V.out); replace M := Go.Lib.hid (row_next hb M.out); replace S := Go.Lib.hid (row_next hb S.out); replace hB := Go.Lib.hid (below_next hB.out hb); replace hK := Go.Lib.hid (below_next hK.out hb); clear hb FN' R' Z' V' M' S')
        | (refine list_atI 22 rfl ?_; intro W hW; rw [hW] at hB hK FN R Z V M S; clear hW; have FN' := Go.Lib.hid (cls_row' FN.out); have R' := Go.Lib.hid (cls_row' R.out); have Z' := Go.Lib.hid (cls_row' Z.out); have V' := Go.Lib.hid (cls_row' V.out); have M' := Go.Lib.hid (cls_row' M.out); have S' := Go.Lib.hid (cls_row' S.out); (repeat (first | go_big_quiet_skip | (refine wpQuiet_load1 84 _ rfl (by first | exact want_n rfl | exact want_g _ _ _ rfl rfl rfl) (w.heap.size + 1) _ rfl 1 (fun _ => .func (.func 49) #[] #[.pointer (some ⟨b, 0, none⟩)]) _ rw_fn FN'.out (by omega) ?_; skip; simp only [Act.put, List.setIfInBounds_toArray, List.set_cons_succ, List.set_cons_zero]) | (refine wpQuiet_loadmid 42 _ rfl (by first | exact want_n rfl | exact want_g _ _ _ rfl rfl rfl) Bx _ rfl 2 2 (spAt x y) _ rw_spot size_spot R'.out (by omega) ?_; rw [sp_row]; simp only [Act.put, List.setIfInBounds_toArray, List.set_cons_succ, List.set_cons_zero]) | (refine wpQuiet_load1 2 _ rfl (by first | exact want_n rfl | exact want_g _ _ _ rfl rfl rfl) (w.heap.size + 4) _ rfl 1 (fun _ => .int .i64 bp.2) _ rw_int64 M'.out (by omega) ?_; skip; simp only [Act.put, List.setIfInBounds_toArray, List.set_cons_succ, List.set_cons_zero]) | go_big_quiet_step ((go_at_call 49; exact cls_call _ (fun w hw => HC.out x y w (row_next hw S.out) hx hy))))); refine wpQuiet_nil ?_; intro Wn hb; replace FN := Go.Lib.hid (row_next hb FN.out); replace R := Go.Lib.hid (row_next hb R.out); replace Z := Go.Lib.hid (row_next hb Z.out); replace V := Go.Lib.hid (row_next hb V.out); replace M := Go.Lib.hid (row_next hb M.out); replace S := Go.Lib.hid (row_next hb S.out); replace hB := Go.Lib.hid (below_next hB.out hb); replace hK := Go.Lib.hid (below_next hK.out hb); clear hb FN' R' Z' V' M' S'))
      exact ⟨keeps_below hK.out, Kp2.of_lt hK.out (by omega) (by omega), FN.out, Z.out, by rw [hap.out, bestStep, if_neg (by simpa using hgt)]; exact V.out, by rw [hap.out, bestStep, if_neg (by simpa using hgt)]; exact M.out, S.out, hB.out⟩
  case done =>
    rintro D W hD ⟨FN, Z, V, M, S, hB⟩ hd
    obtain ⟨g1, g2⟩ := BD.out (cellsL a c)
    have E := hE.next hB
    obtain ⟨bp, hbp⟩ : ∃ bp, best (rgF r) (cellsL a c) = bp := ⟨_, rfl⟩
    rw [hbp] at V M g1 g2
    have HBP := Go.Lib.hid hbp
    clear hbp
    have hsz := hB.size
    replace V := Go.Lib.hid V; replace hd := Go.Lib.hid hd; replace hB := Go.Lib.hid hB; replace M := Go.Lib.hid M; replace Z := Go.Lib.hid Z; replace E := Go.Lib.hid E
    clear FN S
    have hlt := row_lt hd.out
    by_cases h0 : bp.2 = 0
    · have hdec : decide (bp.2 = 0) = true := by simpa using h0
      go_wp2_with (first | (refine wpList_load1 rfl 2 _ rfl (w.heap.size + 4) _ rfl 1 (fun _ => .int .i64 bp.2) _ _ Tryd.underlying2 rfl M.out (by omega) ?_; skip; simp only [Act.put, List.setIfInBounds_toArray, List.set_cons_succ, List.set_cons_zero]))
      refine Code.wp_mono (Q := fun ex a' W' => ex = .normal ∧ a'.tmps.getD 4 undef = .pointer (some ⟨w.heap.size + 2, 0, none⟩) ∧ a'.tmps.getD 5 undef = .int .i64 0 ∧ a'.tmps.getD 6 undef = errP e 6 ∧ a'.defers = [{ target := .collected D, args := #[] }] ∧ Below w.heap.size w W' ∧ W'.heap[w.heap.size + 2]? = some (.cells (vrow 2 (spAt 0 0)) 42) ∧ W'.heap[D]? = some (.deferred (some []))) ?_ ?_
      rotate_left
      · have Vz : W.drew.heap[w.heap.size + 2]? = some (.cells (vrow 2 (spAt 0 0)) 42) := Z.out
        refine wp_region_held_drew (S := fun W' => Below w.heap.size w W' ∧ W'.heap[D]? = some (.deferred (some [])) ∧ W'.heap[6]? = some (.cells (vrow 1 fun _ => errP e 6) (e.t 6))) (by kernel_rfl) ⟨hB.out.drew, hd.out, E.out.v6⟩ (fun hH => ?_)
        clear hB Z hd hdec
        generalize World.drew _ = W1 at hH Vz ⊢
        refine wpAnyH_take (i := 0) (v := (.agg (vrow 2 (spAt 0 0)))) rfl (by kernel_rfl) (by kernel_rfl) (by kernel_rfl) (fun _ _ _ h => by cases h.1) (.inl ⟨by rfl, fun w _ => by go_simp⟩) hH ?_
        (try simp only [Act.put, List.setIfInBounds_toArray, List.set_cons_succ, List.set_cons_zero])
        refine wpAnyH_take (i := 1) (v := (errP e 6)) rfl (by kernel_rfl) (by kernel_rfl) (by kernel_rfl) (fun _ _ _ h => by cases h.1) (yields_one (by rfl) 58 _ rfl (6) 0 rfl 1 (fun _ => errP e 6) _ _ Tryd.underlying58 rfl (by omega) (fun _ h => h.2.2)) hH ?_
        (try simp only [Act.put, List.setIfInBounds_toArray, List.set_cons_succ, List.set_cons_zero])
        refine wpAnyH_ready (rs := [2]) (by kernel_rfl) (by simp) (AllReadyH.cons rfl (fun K hK => ?_) AllReadyH.nil)
        rw [if_pos (by rfl)]
        unfold Oper.wp
        rw [run_storemid 42 (.tmp 4) (.tmp 28) rfl (w.heap.size + 2) 0 rfl 2 2 (spAt 0 0) (spAt 0 0) rfl 42 size_spot Vz (by omega) (fun i _ => spAt_one _ _ i), vrow_over_all, Oper.upon_skip]
        have V2 := row_set Vz (vrow 2 (spAt 0 0))
        have hH2 : Below w.heap.size w (W1.setRow (w.heap.size + 2) (vrow 2 (spAt 0 0))) ∧ (W1.setRow (w.heap.size + 2) (vrow 2 (spAt 0 0))).heap[D]? = some (.deferred (some [])) ∧ (W1.setRow (w.heap.size + 2) (vrow 2 (spAt 0 0))).heap[6]? = some (.cells (vrow 1 fun _ => errP e 6) (e.t 6)) := ⟨Below_setRow hH.1 (by omega) _, (setRow_other _ _ D _ (by omega)).trans hH.2.1, row_set' (by omega) hH.2.2 _⟩
        refine hK.out _ _ hH2 (fun hH => ?_)
        clear hK K hH2
        (try simp only [Act.put, List.setIfInBounds_toArray, List.set_cons_succ, List.set_cons_zero])
        refine wpAnyH_take (i := 3) (v := (.int .i64 0)) rfl (by kernel_rfl) (by kernel_rfl) (by kernel_rfl) (fun _ _ _ h => by cases h.1) (.inl ⟨by rfl, fun w _ => by go_simp⟩) hH ?_
        (try simp only [Act.put, List.setIfInBounds_toArray, List.set_cons_succ, List.set_cons_zero])
        refine wpAnyH_take (i := 4) (v := (errP e 6)) rfl (by kernel_rfl) (by kernel_rfl) (by kernel_rfl) (fun _ _ _ h => by cases h.1) (.inl ⟨by rfl, fun w _ => by go_simp⟩) hH ?_
        (try simp only [Act.put, List.setIfInBounds_toArray, List.set_cons_succ, List.set_cons_zero])
        refine wpAnyH_done (by kernel_rfl) ?_ _
        exact ⟨rfl, rfl, rfl, rfl, rfl, hH.1, V2, hH.2.1⟩
      · rintro e1 a1 W1 ⟨rfl, t4, t5, t6, hdf, hB, Z, hd⟩
        have hlt := row_lt hd
        go_wp2
        refine leaveM hdf hd (res_row3 Tryd.results48 (w.heap.size + 2) 2 (spAt 0 0) 42 _ Tryd.underlying42 rfl size_spot (.int .i64 0) (errP e 6) t4 t5 t6 (row_put Z (by omega))) ?_
        exact ⟨by rw [HBP.out, firstRes_no (by simpa using h0)], below_put _ hB (by omega) hlt⟩
    · have hdec : decide (bp.2 = 0) = false := by simpa using h0
      go_wp2_with (first | (refine wpList_load1 rfl 2 _ rfl (w.heap.size + 4) _ rfl 1 (fun _ => .int .i64 bp.2) _ _ Tryd.underlying2 rfl M.out (by omega) ?_; skip; simp only [Act.put, List.setIfInBounds_toArray, List.set_cons_succ, List.set_cons_zero]))
      refine Code.wp_mono (Q := fun ex a' W' => ex = .normal ∧ a'.tmps.getD 4 undef = .pointer (some ⟨w.heap.size + 2, 0, none⟩) ∧ a'.tmps.getD 5 undef = .int .i64 bp.2 ∧ a'.tmps.getD 6 undef = .nilIface ∧ a'.defers = [{ target := .collected D, args := #[] }] ∧ Below w.heap.size w W' ∧ W'.heap[w.heap.size + 2]? = some (.cells (vrow 2 (spAt bp.1.1 bp.1.2)) 42) ∧ W'.heap[D]? = some (.deferred (some []))) ?_ ?_
      rotate_left
      · have Vz : W.drew.heap[w.heap.size + 2]? = some (.cells (vrow 2 (spAt 0 0)) 42) := Z.out
        refine wp_region_held_drew (S := fun W' => Below w.heap.size w W' ∧ W'.heap[D]? = some (.deferred (some [])) ∧ W'.heap[w.heap.size + 3]? = some (.cells (vrow 2 (spAt bp.1.1 bp.1.2)) 42) ∧ W'.heap[w.heap.size + 4]? = some (.cells (vrow 1 fun _ => .int .i64 bp.2) 2)) (by kernel_rfl) ⟨hB.out.drew, hd.out, V.out, M.out⟩ (fun hH => ?_)
        clear hB Z hd hdec
        generalize World.drew _ = W1 at hH Vz ⊢
        refine wpAnyH_take (i := 0) (v := (.agg (vrow 2 (spAt bp.1.1 bp.1.2)))) rfl (by kernel_rfl) (by kernel_rfl) (by kernel_rfl) (fun _ _ _ h => by cases h.1) (yields_row (by rfl) 42 _ rfl (w.heap.size + 3) rfl 2 (spAt bp.1.1 bp.1.2) 42 _ Tryd.underlying42 rfl size_spot (fun _ h => h.2.2.1)) hH ?_
        (try simp only [Act.put, List.setIfInBounds_toArray, List.set_cons_succ, List.set_cons_zero])
        refine wpAnyH_take (i := 1) (v := (.int .i64 bp.2)) rfl (by kernel_rfl) (by kernel_rfl) (by kernel_rfl) (fun _ _ _ h => by cases h.1) (yields_one (by rfl) 2 _ rfl (w.heap.size + 4) 0 rfl 1 (fun _ => .int .i64 bp.2) _ _ Tryd.underlying2 rfl (by omega) (fun _ h => h.2.2.2)) hH ?_
        (try simp only [Act.put, List.setIfInBounds_toArray, List.set_cons_succ, List.set_cons_zero])
        refine wpAnyH_ready (rs := [2]) (by kernel_rfl) (by simp) (AllReadyH.cons rfl (fun K hK => ?_) AllReadyH.nil)
        rw [if_pos (by rfl)]
        unfold Oper.wp
        rw [run_storemid 42 (.tmp 4) (.tmp 30) rfl (w.heap.size + 2) 0 rfl 2 2 (spAt 0 0) (spAt bp.1.1 bp.1.2) rfl 42 size_spot Vz (by omega) (fun i _ => spAt_one _ _ i), vrow_over_all, Oper.upon_skip]
        have V2 := row_set Vz (vrow 2 (spAt bp.1.1 bp.1.2))
        have hH2 : Below w.heap.size w (W1.setRow (w.heap.size + 2) (vrow 2 (spAt bp.1.1 bp.1.2))) ∧ (W1.setRow (w.heap.size + 2) (vrow 2 (spAt bp.1.1 bp.1.2))).heap[D]? = some (.deferred (some [])) ∧ (W1.setRow (w.heap.size + 2) (vrow 2 (spAt bp.1.1 bp.1.2))).heap[w.heap.size + 3]? = some (.cells (vrow 2 (spAt bp.1.1 bp.1.2)) 42) ∧ (W1.setRow (w.heap.size + 2) (vrow 2 (spAt bp.1.1 bp.1.2))).heap[w.heap.size + 4]? = some (.cells (vrow 1 fun _ => .int .i64 bp.2) 2) := ⟨Below_setRow hH.1 (by omega) _, (setRow_other _ _ D _ (by omega)).trans hH.2.1, row_set' (by omega) hH.2.2.1 _, row_set' (by omega) hH.2.2.2 _⟩
        refine hK.out _ _ hH2 (fun hH => ?_)
        clear hK K hH2
        (try simp only [Act.put, List.setIfInBounds_toArray, List.set_cons_succ, List.set_cons_zero])
        refine wpAnyH_take (i := 3) (v := (.int .i64 bp.2)) rfl (by kernel_rfl) (by kernel_rfl) (by kernel_rfl) (fun _ _ _ h => by cases h.1) (.inl ⟨by rfl, fun w _ => by go_simp⟩) hH ?_
        (try simp only [Act.put, List.setIfInBounds_toArray, List.set_cons_succ, List.set_cons_zero])
        refine wpAnyH_take (i := 4) (v := (.nilIface)) rfl (by kernel_rfl) (by kernel_rfl) (by kernel_rfl) (fun _ _ _ h => by cases h.1) (.inl ⟨by rfl, fun w _ => by go_simp⟩) hH ?_
        (try simp only [Act.put, List.setIfInBounds_toArray, List.set_cons_succ, List.set_cons_zero])
        refine wpAnyH_done (by kernel_rfl) ?_ _
        exact ⟨rfl, rfl, rfl, rfl, rfl, hH.1, V2, hH.2.1⟩
      · rintro e1 a1 W1 ⟨rfl, t4, t5, t6, hdf, hB, Z, hd⟩
        have hlt := row_lt hd
        go_wp2
        refine leaveM hdf hd (res_row3 Tryd.results48 (w.heap.size + 2) 2 (spAt bp.1.1 bp.1.2) 42 _ Tryd.underlying42 rfl size_spot (.int .i64 bp.2) (.nilIface) t4 t5 t6 (row_put Z (by omega))) ?_
        exact ⟨by rw [HBP.out, firstRes_yes (by simpa using h0)], below_put _ hB (by omega) hlt⟩
  case stop =>
    rintro D c pre W hD h hd
    exact h.elim
end Go.Proofs.YtflmkhjleifbbaaDoor
