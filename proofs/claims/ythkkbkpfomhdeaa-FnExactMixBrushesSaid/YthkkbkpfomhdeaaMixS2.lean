import Derived.Deep.RegionHeld3
import Derived.Test.YthkkbkpfomhdeaaXLib2
import Derived.Test.YthkkbkpfomhdeaaBrOk
import Derived.Test.YthkkbkpfomhdeaaBrSet
import Derived.Test.YthkkbkpfomhdeaaYield
import Derived.Test.YthkkbkpfomhdeaaCells
namespace Go.Proofs.Ythkkbkpfomhdeaa
open Go.RowKit
set_option maxRecDepth 100000
set_option linter.unusedVariables false
set_option linter.unusedSimpArgs false
theorem drw {w : World} {b : Nat} {x : Obj} (h : w.heap[b]? = some x) : w.drew.heap[b]? = some x := h
theorem drwN {w : World} {b n : Nat} {x : Obj} (h : w.heap[b]? = some x) : (w.drewN n).heap[b]? = some x := h
/-- THE RESULTS: two rows and a slot. -/
theorem ret_rows2 {P : Program} {fn : Func} {R : Ending → World → Prop} {a : Act} {w : World} {p u q : Tmp} {ty ty' : TypeId} (hr : fn.results = #[.cell p ty, .cell u ty', .tmp q]) (b : Nat) (n : Nat) (f : Nat → Value) (t : TypeId) (d : TypeDesc) (hu : P.underlying ty = some d) (hd : d.isRow = true) (hi : (P.info? ty).map (·.size) = some n) (b' : Nat) (n' : Nat) (f' : Nat → Value) (t' : TypeId) (d' : TypeDesc) (hu' : P.underlying ty' = some d') (hd' : d'.isRow = true) (hi' : (P.info? ty').map (·.size) = some n') (v : Value)
    (hp : a.tmps.getD p undef = .pointer (some ⟨b, 0, none⟩)) (hp' : a.tmps.getD u undef = .pointer (some ⟨b', 0, none⟩)) (hv : a.tmps.getD q undef = v) (hdf : a.defers = []) (hg : w.heap[b]? = some (.cells (vrow n f) t)) (hg' : w.heap[b']? = some (.cells (vrow n' f') t')) (h : R (.returned (.tuple #[.agg (vrow n f), .agg (vrow n' f'), v])) w) : bodyPost P fn R .ret a w := by
  refine bodyPost_ret ?_ hdf h
  have hl := run_loadVar_row (P := P) w b t ty (vrow n f) (0, 0) d hg hu (by cases d <;> first | rfl | exact hd) (by rw [vrow_size]; exact hi)
  have hl' := run_loadVar_row (P := P) w b' t' ty' (vrow n' f') (0, 0) d' hg' hu' (by cases d' <;> first | rfl | exact hd') (by rw [vrow_size]; exact hi')
  have hp1 : a.tmps[p]?.getD undef = .pointer (some ⟨b, 0, none⟩) := by simpa using hp
  have hp2 : a.tmps[u]?.getD undef = .pointer (some ⟨b', 0, none⟩) := by simpa using hp'
  have hv1 : a.tmps[q]?.getD undef = v := by simpa using hv
  simp [results, hr, hp1, hp2, hv1, asAddr, hl, hl', Result.andThen]
theorem vrow_0 (n : Nat) (f : Nat → Value) : vrow n (fun i => f (0 + i)) = vrow n f := vrow_ext _ _ _ fun i _ => by rw [Nat.zero_add]
def mixA (a b : Br) : Br := ⟨fun i => (a.dye i + b.dye i + 1) / 2, (a.water + b.water + 1) / 2, a.share⟩
def mixB (a b : Br) : Br := ⟨fun i => (a.dye i + b.dye i) / 2, (a.water + b.water) / 2, b.share⟩
/-- what comes of it -/
def MixRes (a b r q : Br) (c : Int) : Prop := ((mixA a b).ok = true ∧ (mixB a b).ok = true ∧ r = mixA a b ∧ q = mixB a b ∧ c = 0) ∨ (((mixA a b).ok = false ∨ (mixB a b).ok = false) ∧ r = Br.zero ∧ q = Br.zero ∧ c = 3)
/-- k inks have been mixed -/
def mixAk (a b : Br) (k : Nat) : Br := ⟨fun i => if i < k then (a.dye i + b.dye i + 1) / 2 else a.dye i, a.water, a.share⟩
def mixBk (a b : Br) (k : Nat) : Br := ⟨fun i => if i < k then (a.dye i + b.dye i) / 2 else b.dye i, b.water, b.share⟩
theorem mixAk_0 (a b : Br) : vrow 5 (mixAk a b 0).at = vrow 5 a.at := by
  refine vrow_ext _ _ _ fun i hi => ?_
  simp [mixAk, Br.at]
theorem mixBk_0 (a b : Br) : vrow 5 (mixBk a b 0).at = vrow 5 b.at := by
  refine vrow_ext _ _ _ fun i hi => ?_
  simp [mixBk, Br.at]
theorem mixAk_dye (a b : Br) (k : Nat) : (mixAk a b k).dye k = a.dye k := by simp [mixAk]
theorem mixBk_dye (a b : Br) (k : Nat) : (mixBk a b k).dye k = b.dye k := by simp [mixBk]
theorem mixAk_set (a b : Br) (k : Nat) : (mixAk a b k).setDye k ((a.dye k + b.dye k + 1) / 2) = mixAk a b (k + 1) := by
  unfold Br.setDye mixAk
  congr 1
  funext i
  dsimp only
  by_cases h : i = k
  · subst h; rw [if_pos rfl, if_pos (by omega)]
  · rw [if_neg h]
    by_cases h2 : i < k
    · rw [if_pos h2, if_pos (by omega)]
    · rw [if_neg h2, if_neg (by omega)]
theorem mixBk_set (a b : Br) (k : Nat) : (mixBk a b k).setDye k ((a.dye k + b.dye k) / 2) = mixBk a b (k + 1) := by
  unfold Br.setDye mixBk
  congr 1
  funext i
  dsimp only
  by_cases h : i = k
  · subst h; rw [if_pos rfl, if_pos (by omega)]
  · rw [if_neg h]
    by_cases h2 : i < k
    · rw [if_pos h2, if_pos (by omega)]
    · rw [if_neg h2, if_neg (by omega)]
theorem mixA_end (a b : Br) : vrow 5 ((mixAk a b 3).setWater ((a.water + b.water + 1) / 2)).at = vrow 5 (mixA a b).at := vrow_ext _ _ _ fun i hi => by
  unfold Br.at Br.setWater mixAk mixA
  dsimp only
  by_cases h : i < 3
  · rw [if_pos h, if_pos h, if_pos h]
  · rw [if_neg h, if_neg h]
theorem mixB_end (a b : Br) : vrow 5 ((mixBk a b 3).setWater ((a.water + b.water) / 2)).at = vrow 5 (mixB a b).at := vrow_ext _ _ _ fun i hi => by
  unfold Br.at Br.setWater mixBk mixB
  dsimp only
  by_cases h : i < 3
  · rw [if_pos h, if_pos h, if_pos h]
  · rw [if_neg h, if_neg h]
structure Br.bd (b : Br) : Prop where
  dye : ∀ i, i < 3 → 0 ≤ b.dye i ∧ b.dye i ≤ 900
  water : 0 ≤ b.water ∧ b.water ≤ 200
theorem Br.ok_bd (b : Br) (h : b.ok = true) : b.bd := by
  obtain ⟨g0, g1, g2, g3, g4, g5, g6, g7⟩ := b.ok_iff.1 h
  unfold Br.sum at g3
  refine ⟨fun i hi => ?_, g4, g5⟩
  have : i = 0 ∨ i = 1 ∨ i = 2 := by omega
  rcases this with rfl | rfl | rfl <;> omega
theorem mixA_fit {a b : Br} (ha : a.bd) (hb : b.bd) (hf : a.fit) : (mixA a b).fit := by
  refine ⟨fun i hi => ?_, ?_, hf.share⟩
  · have := ha.dye i hi; have := hb.dye i hi; show -32768 ≤ (a.dye i + b.dye i + 1) / 2 ∧ (a.dye i + b.dye i + 1) / 2 ≤ 32767; omega
  · have := ha.water; have := hb.water; show -32768 ≤ (a.water + b.water + 1) / 2 ∧ (a.water + b.water + 1) / 2 ≤ 32767; omega
theorem mixB_fit {a b : Br} (ha : a.bd) (hb : b.bd) (hf : b.fit) : (mixB a b).fit := by
  refine ⟨fun i hi => ?_, ?_, hf.share⟩
  · have := ha.dye i hi; have := hb.dye i hi; show -32768 ≤ (a.dye i + b.dye i) / 2 ∧ (a.dye i + b.dye i) / 2 ≤ 32767; omega
  · have := ha.water; have := hb.water; show -32768 ≤ (a.water + b.water) / 2 ∧ (a.water + b.water) / 2 ≤ 32767; omega
set_option maxHeartbeats 2000000 in
theorem specMix_bad (a b : Br) (w : World) (hfa : a.fit) (hfb : b.fit) (ho : a.ok = false ∨ b.ok = false) : Calls Try.prog 6 #[.agg a.row, .agg b.row] w fun o w' => o = .returned (.tuple #[.agg Br.zero.row, .agg Br.zero.row, .int .i64 1]) ∧ Below w.heap.size w w' := by
  have zz := zero_br
  have P : Hid (((((w.alloc (.cells (vrow 5 a.at) 27)).alloc (.cells (vrow 5 b.at) 27)).alloc (.cells (vrow 5 Br.zero.at) 27)).alloc (.cells (vrow 5 Br.zero.at) 27)).heap[w.heap.size]? = some (.cells (vrow 5 a.at) 27)) := heap_past _ _ _ _ (by simp <;> omega) (heap_past _ _ _ _ (by simp <;> omega) (heap_past _ _ _ _ (by simp <;> omega) (heap_at _ _ _ (by simp))))
  have R : Hid (((((w.alloc (.cells (vrow 5 a.at) 27)).alloc (.cells (vrow 5 b.at) 27)).alloc (.cells (vrow 5 Br.zero.at) 27)).alloc (.cells (vrow 5 Br.zero.at) 27)).heap[w.heap.size + 1]? = some (.cells (vrow 5 b.at) 27)) := heap_past _ _ _ _ (by simp <;> omega) (heap_past _ _ _ _ (by simp <;> omega) (heap_at _ _ _ (by simp)))
  have Z : Hid (((((w.alloc (.cells (vrow 5 a.at) 27)).alloc (.cells (vrow 5 b.at) 27)).alloc (.cells (vrow 5 Br.zero.at) 27)).alloc (.cells (vrow 5 Br.zero.at) 27)).heap[w.heap.size + 2]? = some (.cells (vrow 5 Br.zero.at) 27)) := heap_past _ _ _ _ (by simp <;> omega) (heap_at _ _ _ (by simp))
  have Y : Hid (((((w.alloc (.cells (vrow 5 a.at) 27)).alloc (.cells (vrow 5 b.at) 27)).alloc (.cells (vrow 5 Br.zero.at) 27)).alloc (.cells (vrow 5 Br.zero.at) 27)).heap[w.heap.size + 3]? = some (.cells (vrow 5 Br.zero.at) 27)) := heap_at _ _ _ (by simp)
  have hB : Hid (Below w.heap.size w ((((w.alloc (.cells (vrow 5 a.at) 27)).alloc (.cells (vrow 5 b.at) 27)).alloc (.cells (vrow 5 Br.zero.at) 27)).alloc (.cells (vrow 5 Br.zero.at) 27))) := (((((Below.refl w.heap.size w).alloc (by simp <;> omega) _).alloc (by simp <;> omega) _).alloc (by simp <;> omega) _).alloc (by simp <;> omega) _)
  have HA0 := fun n w hs => lok_any a n w hfa hs
  have HO0 := fun n w hs => lok_any b n w hfb hs
  cases hoa : a.ok
  · rw [hoa] at HA0
    have HA := Go.Lib.hid HA0
    clear HA0 HO0 ho
    go_enter Try.func6, Try.ntmps6
    go_wp2_with (first
      | go_skip
      | (go_at_call 14; (with_reducible refine (HA.out _ _ P.out).mono ?_); rintro o w1 ⟨rfl, hb⟩; replace P := Go.Lib.hid (row_next hb P.out); replace R := Go.Lib.hid (row_next hb R.out); replace Z := Go.Lib.hid (row_next hb Z.out); replace Y := Go.Lib.hid (row_next hb Y.out); replace hB := Go.Lib.hid (below_next hB.out hb); clear hb)
      | ((with_reducible refine wlAt 16 rfl ?_); refine wpList_built rfl 27 [] rfl [] (by rfl) _ built_zbr ?_)
      | ((with_reducible refine wlAt 17 rfl ?_); refine wpList_built rfl 27 [] rfl [] (by rfl) _ built_zbr ?_)
      | ((with_reducible refine wlOp (.store 27 (.tmp 4) (.tmp 16)) rfl ?_); refine wpList_storeall rfl 27 (.tmp 4) (.tmp 16) rfl (w.heap.size + 2) rfl 5 Br.zero.at Br.zero.at rfl 27 size_br Z.out (fun i _ => Br.one _ i) ?_; replace Y := Go.Lib.hid (row_set' (g := w.heap.size + 2) (show w.heap.size + 3 ≠ w.heap.size + 2 by omega) Y.out (vrow 5 Br.zero.at)); replace Z := Go.Lib.hid (row_set Z.out (vrow 5 Br.zero.at)); replace hB := Go.Lib.hid (Below_setRow hB.out (show w.heap.size ≤ w.heap.size + 2 by omega) (vrow 5 Br.zero.at)))
      | ((with_reducible refine wlOp (.store 27 (.tmp 5) (.tmp 17)) rfl ?_); refine wpList_storeall rfl 27 (.tmp 5) (.tmp 17) rfl (w.heap.size + 3) rfl 5 Br.zero.at Br.zero.at rfl 27 size_br Y.out (fun i _ => Br.one _ i) ?_; replace Z := Go.Lib.hid (row_set' (g := w.heap.size + 3) (show w.heap.size + 2 ≠ w.heap.size + 3 by omega) Z.out (vrow 5 Br.zero.at)); replace Y := Go.Lib.hid (row_set Y.out (vrow 5 Br.zero.at)); replace hB := Go.Lib.hid (Below_setRow hB.out (show w.heap.size ≤ w.heap.size + 3 by omega) (vrow 5 Br.zero.at))))
    exact ret_rows2 Try.results6 (w.heap.size + 2) 5 Br.zero.at 27 _ Try.underlying27 rfl size_br (w.heap.size + 3) 5 Br.zero.at 27 _ Try.underlying27 rfl size_br (.int .i64 1) rfl rfl rfl rfl Z.out Y.out ⟨rfl, hB.out⟩
  · have hob : b.ok = false := by rcases ho with h | h; (rw [hoa] at h; cases h); exact h
    rw [hoa] at HA0
    rw [hob] at HO0
    have HA := Go.Lib.hid HA0
    have HO := Go.Lib.hid HO0
    clear HA0 HO0 ho
    go_enter Try.func6, Try.ntmps6
    go_wp2_with (first
      | go_skip
      | (go_at_call 14; (with_reducible refine (HA.out _ _ P.out).mono ?_); rintro o w1 ⟨rfl, hb⟩; replace P := Go.Lib.hid (row_next hb P.out); replace R := Go.Lib.hid (row_next hb R.out); replace Z := Go.Lib.hid (row_next hb Z.out); replace Y := Go.Lib.hid (row_next hb Y.out); replace hB := Go.Lib.hid (below_next hB.out hb); clear hb)
      | (go_at_call 14; (with_reducible refine (HO.out _ _ R.out).mono ?_); rintro o w1 ⟨rfl, hb⟩; replace P := Go.Lib.hid (row_next hb P.out); replace R := Go.Lib.hid (row_next hb R.out); replace Z := Go.Lib.hid (row_next hb Z.out); replace Y := Go.Lib.hid (row_next hb Y.out); replace hB := Go.Lib.hid (below_next hB.out hb); clear hb)
      | ((with_reducible refine wlAt 16 rfl ?_); refine wpList_built rfl 27 [] rfl [] (by rfl) _ built_zbr ?_)
      | ((with_reducible refine wlAt 17 rfl ?_); refine wpList_built rfl 27 [] rfl [] (by rfl) _ built_zbr ?_)
      | ((with_reducible refine wlOp (.store 27 (.tmp 4) (.tmp 16)) rfl ?_); refine wpList_storeall rfl 27 (.tmp 4) (.tmp 16) rfl (w.heap.size + 2) rfl 5 Br.zero.at Br.zero.at rfl 27 size_br Z.out (fun i _ => Br.one _ i) ?_; replace Y := Go.Lib.hid (row_set' (g := w.heap.size + 2) (show w.heap.size + 3 ≠ w.heap.size + 2 by omega) Y.out (vrow 5 Br.zero.at)); replace Z := Go.Lib.hid (row_set Z.out (vrow 5 Br.zero.at)); replace hB := Go.Lib.hid (Below_setRow hB.out (show w.heap.size ≤ w.heap.size + 2 by omega) (vrow 5 Br.zero.at)))
      | ((with_reducible refine wlOp (.store 27 (.tmp 5) (.tmp 17)) rfl ?_); refine wpList_storeall rfl 27 (.tmp 5) (.tmp 17) rfl (w.heap.size + 3) rfl 5 Br.zero.at Br.zero.at rfl 27 size_br Y.out (fun i _ => Br.one _ i) ?_; replace Z := Go.Lib.hid (row_set' (g := w.heap.size + 3) (show w.heap.size + 2 ≠ w.heap.size + 3 by omega) Z.out (vrow 5 Br.zero.at)); replace Y := Go.Lib.hid (row_set Y.out (vrow 5 Br.zero.at)); replace hB := Go.Lib.hid (Below_setRow hB.out (show w.heap.size ≤ w.heap.size + 3 by omega) (vrow 5 Br.zero.at))))
    exact ret_rows2 Try.results6 (w.heap.size + 2) 5 Br.zero.at 27 _ Try.underlying27 rfl size_br (w.heap.size + 3) 5 Br.zero.at 27 _ Try.underlying27 rfl size_br (.int .i64 1) rfl rfl rfl rfl Z.out Y.out ⟨rfl, hB.out⟩
set_option maxHeartbeats 4000000 in
theorem specMix_ok (a b r q : Br) (c : Int) (hres : MixRes a b r q c) (w : World) (hfa : a.fit) (hfb : b.fit) (hoa : a.ok = true) (hob : b.ok = true) : Calls Try.prog 6 #[.agg a.row, .agg b.row] w fun o w' => o = .returned (.tuple #[.agg r.row, .agg q.row, .int .i64 c]) ∧ Below w.heap.size w w' := by
  have zz := zero_br
  have P : Hid (((((w.alloc (.cells (vrow 5 a.at) 27)).alloc (.cells (vrow 5 b.at) 27)).alloc (.cells (vrow 5 Br.zero.at) 27)).alloc (.cells (vrow 5 Br.zero.at) 27)).heap[w.heap.size]? = some (.cells (vrow 5 a.at) 27)) := heap_past _ _ _ _ (by simp <;> omega) (heap_past _ _ _ _ (by simp <;> omega) (heap_past _ _ _ _ (by simp <;> omega) (heap_at _ _ _ (by simp))))
  have R : Hid (((((w.alloc (.cells (vrow 5 a.at) 27)).alloc (.cells (vrow 5 b.at) 27)).alloc (.cells (vrow 5 Br.zero.at) 27)).alloc (.cells (vrow 5 Br.zero.at) 27)).heap[w.heap.size + 1]? = some (.cells (vrow 5 b.at) 27)) := heap_past _ _ _ _ (by simp <;> omega) (heap_past _ _ _ _ (by simp <;> omega) (heap_at _ _ _ (by simp)))
  have Z : Hid (((((w.alloc (.cells (vrow 5 a.at) 27)).alloc (.cells (vrow 5 b.at) 27)).alloc (.cells (vrow 5 Br.zero.at) 27)).alloc (.cells (vrow 5 Br.zero.at) 27)).heap[w.heap.size + 2]? = some (.cells (vrow 5 Br.zero.at) 27)) := heap_past _ _ _ _ (by simp <;> omega) (heap_at _ _ _ (by simp))
  have Y : Hid (((((w.alloc (.cells (vrow 5 a.at) 27)).alloc (.cells (vrow 5 b.at) 27)).alloc (.cells (vrow 5 Br.zero.at) 27)).alloc (.cells (vrow 5 Br.zero.at) 27)).heap[w.heap.size + 3]? = some (.cells (vrow 5 Br.zero.at) 27)) := heap_at _ _ _ (by simp)
  have hB : Hid (Below w.heap.size w ((((w.alloc (.cells (vrow 5 a.at) 27)).alloc (.cells (vrow 5 b.at) 27)).alloc (.cells (vrow 5 Br.zero.at) 27)).alloc (.cells (vrow 5 Br.zero.at) 27))) := (((((Below.refl w.heap.size w).alloc (by simp <;> omega) _).alloc (by simp <;> omega) _).alloc (by simp <;> omega) _).alloc (by simp <;> omega) _)
  have HA0 := fun n w hs => lok_any a n w hfa hs
  have HO0 := fun n w hs => lok_any b n w hfb hs
  rw [hoa] at HA0
  rw [hob] at HO0
  have HA := Go.Lib.hid HA0
  have HO := Go.Lib.hid HO0
  have ba := a.ok_bd hoa
  have bb := b.ok_bd hob
  have HMA0 := fun n w hs => lok_any (mixA a b) n w (mixA_fit ba bb hfa) hs
  have HMB0 := fun n w hs => lok_any (mixB a b) n w (mixB_fit ba bb hfb) hs
  clear HA0 HO0 hfa hfb hoa hob
  go_enter Try.func6, Try.ntmps6
  go_wp2_with (first
    | go_skip
    | (go_at_call 14; (with_reducible refine (HA.out _ _ P.out).mono ?_); rintro o w1 ⟨rfl, hb⟩; replace P := Go.Lib.hid (row_next hb P.out); replace R := Go.Lib.hid (row_next hb R.out); replace Z := Go.Lib.hid (row_next hb Z.out); replace Y := Go.Lib.hid (row_next hb Y.out); replace hB := Go.Lib.hid (below_next hB.out hb); clear hb)
    | (go_at_call 14; (with_reducible refine (HO.out _ _ R.out).mono ?_); rintro o w1 ⟨rfl, hb⟩; replace P := Go.Lib.hid (row_next hb P.out); replace R := Go.Lib.hid (row_next hb R.out); replace Z := Go.Lib.hid (row_next hb Z.out); replace Y := Go.Lib.hid (row_next hb Y.out); replace hB := Go.Lib.hid (below_next hB.out hb); clear hb))
  go_loopw [7] (fun iv wr => ∃ k : Nat, k ≤ 3 ∧ iv = .int .i64 k ∧ wr.heap[w.heap.size]? = some (.cells (vrow 5 (mixAk a b k).at) 27) ∧ wr.heap[w.heap.size + 1]? = some (.cells (vrow 5 (mixBk a b k).at) 27) ∧ wr.heap[w.heap.size + 2]? = some (.cells (vrow 5 Br.zero.at) 27) ∧ wr.heap[w.heap.size + 3]? = some (.cells (vrow 5 Br.zero.at) 27) ∧ Below w.heap.size w wr) (fun iv _ => 3 - (intOf iv).toNat)
  case atStart => exact ⟨0, by omega, rfl, by rw [mixAk_0]; exact P.out, by rw [mixBk_0]; exact R.out, Z.out, Y.out, hB.out⟩
  case round =>
    clear P R Z Y hB
    obtain ⟨k, hk, rfl, P, R, Z, Y, hB⟩ := hrel
    replace P := Go.Lib.hid P; replace R := Go.Lib.hid R; replace Z := Go.Lib.hid Z; replace Y := Go.Lib.hid Y; replace hB := Go.Lib.hid hB
    by_cases hlt : k < 3
    · have hkI : (k : Int) < 3 := by omega
      obtain ⟨ba1, ba2⟩ := ba.dye k hlt
      obtain ⟨bb1, bb2⟩ := bb.dye k hlt
      have e1 : (a.dye k + b.dye k + 1).tdiv 2 = (a.dye k + b.dye k + 1) / 2 := Int.tdiv_eq_ediv_of_nonneg (by omega)
      have e2 : (a.dye k + b.dye k).tdiv 2 = (a.dye k + b.dye k) / 2 := Int.tdiv_eq_ediv_of_nonneg (by omega)
      have c1 : wr.cell? ⟨w.heap.size, k, none⟩ = some (.int .i16 (a.dye k)) := (cell_row P.out (by omega)).trans (by rw [Br.at_k _ _ hlt, mixAk_dye])
      have c2 : wr.cell? ⟨w.heap.size + 1, k, none⟩ = some (.int .i16 (b.dye k)) := (cell_row R.out (by omega)).trans (by rw [Br.at_k _ _ hlt, mixBk_dye])
      clear ba bb HMA0 HMB0 hres
      go_wp2
      go_quiet (fail)
      replace P := Go.Lib.hid (drwN (n := nq) P.out); replace R := Go.Lib.hid (drwN (n := nq) R.out); replace Z := Go.Lib.hid (drwN (n := nq) Z.out); replace Y := Go.Lib.hid (drwN (n := nq) Y.out); replace hB := Go.Lib.hid (below_drewN hB.out nq)
      clear c1 c2
      generalize World.drewN _ _ = W2 at P R Z Y hB ⊢
      go_wp2_with (first
        | go_skip
        | ((with_reducible refine wlOp (.store 22 (.tmp 36) (.tmp 34)) rfl ?_); refine wpList_store1 rfl 22 (.tmp 36) (.tmp 34) rfl _ k rfl 5 (mixAk a b k).at (.int .i16 ((a.dye k + b.dye k + 1) / 2)) rfl 27 size_i16 P.out (by omega) rfl ?_; rw [Br.dye_at _ _ hlt, mixAk_set]; replace Y := Go.Lib.hid (row_set' (g := w.heap.size) (show w.heap.size + 3 ≠ w.heap.size by omega) Y.out (vrow 5 (mixAk a b (k + 1)).at)); replace Z := Go.Lib.hid (row_set' (g := w.heap.size) (show w.heap.size + 2 ≠ w.heap.size by omega) Z.out (vrow 5 (mixAk a b (k + 1)).at)); replace R := Go.Lib.hid (row_set' (g := w.heap.size) (show w.heap.size + 1 ≠ w.heap.size by omega) R.out (vrow 5 (mixAk a b (k + 1)).at)); replace P := Go.Lib.hid (row_set P.out (vrow 5 (mixAk a b (k + 1)).at)); replace hB := Go.Lib.hid (Below_setRow hB.out (Nat.le_refl _) (vrow 5 (mixAk a b (k + 1)).at)))
        | ((with_reducible refine wlOp (.store 22 (.tmp 41) (.tmp 39)) rfl ?_); refine wpList_store1 rfl 22 (.tmp 41) (.tmp 39) rfl _ k rfl 5 (mixBk a b k).at (.int .i16 ((a.dye k + b.dye k) / 2)) rfl 27 size_i16 R.out (by omega) rfl ?_; rw [Br.dye_at _ _ hlt, mixBk_set]; replace Y := Go.Lib.hid (row_set' (g := w.heap.size + 1) (show w.heap.size + 3 ≠ w.heap.size + 1 by omega) Y.out (vrow 5 (mixBk a b (k + 1)).at)); replace Z := Go.Lib.hid (row_set' (g := w.heap.size + 1) (show w.heap.size + 2 ≠ w.heap.size + 1 by omega) Z.out (vrow 5 (mixBk a b (k + 1)).at)); replace P := Go.Lib.hid (row_set' (g := w.heap.size + 1) (show w.heap.size ≠ w.heap.size + 1 by omega) P.out (vrow 5 (mixBk a b (k + 1)).at)); replace R := Go.Lib.hid (row_set R.out (vrow 5 (mixBk a b (k + 1)).at)); replace hB := Go.Lib.hid (Below_setRow hB.out (show w.heap.size ≤ w.heap.size + 1 by omega) (vrow 5 (mixBk a b (k + 1)).at))))
      go_roundw
      case rel => exact ⟨k + 1, by omega, by go_num, P.out, R.out, Z.out, Y.out, hB.out⟩
      case measure => simp [intOf]; omega
    · obtain rfl : k = 3 := by omega
      obtain ⟨ba1, ba2⟩ := ba.water
      obtain ⟨bb1, bb2⟩ := bb.water
      have e1 : (a.water + b.water + 1).tdiv 2 = (a.water + b.water + 1) / 2 := Int.tdiv_eq_ediv_of_nonneg (by omega)
      have e2 : (a.water + b.water).tdiv 2 = (a.water + b.water) / 2 := Int.tdiv_eq_ediv_of_nonneg (by omega)
      clear ba bb
      cases hma : (mixA a b).ok
      · obtain ⟨_, rfl, rfl, rfl⟩ : _ ∧ r = Br.zero ∧ q = Br.zero ∧ c = 3 := by
          rcases hres with ⟨h1, h2, _⟩ | h
          · simp_all
          · exact h
        rw [hma] at HMA0
        have HMA := Go.Lib.hid HMA0
        clear HMA0 HMB0 hres
        go_wp2_with (first | go_skip | ((with_reducible refine wlAt 43 rfl ?_); refine wpList_load1 rfl 22 (.tmp 42) rfl _ 3 rfl 5 (mixAk a b 3).at 27 _ Try.underlying22 rfl P.out (by omega) ?_; rw [Br.at_3, show (mixAk a b 3).water = a.water from rfl]) | ((with_reducible refine wlAt 45 rfl ?_); refine wpList_load1 rfl 22 (.tmp 44) rfl _ 3 rfl 5 (mixBk a b 3).at 27 _ Try.underlying22 rfl R.out (by omega) ?_; rw [Br.at_3, show (mixBk a b 3).water = b.water from rfl]) | ((with_reducible refine wlOp (.store 22 (.tmp 50) (.tmp 49)) rfl ?_); refine wpList_store1 rfl 22 (.tmp 50) (.tmp 49) rfl _ 3 rfl 5 (mixAk a b 3).at (.int .i16 ((a.water + b.water + 1) / 2)) rfl 27 size_i16 P.out (by omega) rfl ?_; rw [Br.water_at, mixA_end]; replace Y := Go.Lib.hid (row_set' (g := w.heap.size) (show w.heap.size + 3 ≠ w.heap.size by omega) Y.out (vrow 5 (mixA a b).at)); replace Z := Go.Lib.hid (row_set' (g := w.heap.size) (show w.heap.size + 2 ≠ w.heap.size by omega) Z.out (vrow 5 (mixA a b).at)); replace R := Go.Lib.hid (row_set' (g := w.heap.size) (show w.heap.size + 1 ≠ w.heap.size by omega) R.out (vrow 5 (mixA a b).at)); replace P := Go.Lib.hid (row_set P.out (vrow 5 (mixA a b).at)); replace hB := Go.Lib.hid (Below_setRow hB.out (Nat.le_refl _) (vrow 5 (mixA a b).at))) | ((with_reducible refine wlOp (.store 22 (.tmp 53) (.tmp 52)) rfl ?_); refine wpList_store1 rfl 22 (.tmp 53) (.tmp 52) rfl _ 3 rfl 5 (mixBk a b 3).at (.int .i16 ((a.water + b.water) / 2)) rfl 27 size_i16 R.out (by omega) rfl ?_; rw [Br.water_at, mixB_end]; replace Y := Go.Lib.hid (row_set' (g := w.heap.size + 1) (show w.heap.size + 3 ≠ w.heap.size + 1 by omega) Y.out (vrow 5 (mixB a b).at)); replace Z := Go.Lib.hid (row_set' (g := w.heap.size + 1) (show w.heap.size + 2 ≠ w.heap.size + 1 by omega) Z.out (vrow 5 (mixB a b).at)); replace P := Go.Lib.hid (row_set' (g := w.heap.size + 1) (show w.heap.size ≠ w.heap.size + 1 by omega) P.out (vrow 5 (mixB a b).at)); replace R := Go.Lib.hid (row_set R.out (vrow 5 (mixB a b).at)); replace hB := Go.Lib.hid (Below_setRow hB.out (show w.heap.size ≤ w.heap.size + 1 by omega) (vrow 5 (mixB a b).at))) | (go_at_call 14; (with_reducible refine (HMA.out _ _ P.out).mono ?_); rintro o w1 ⟨rfl, hb⟩; replace P := Go.Lib.hid (row_next hb P.out); replace R := Go.Lib.hid (row_next hb R.out); replace Z := Go.Lib.hid (row_next hb Z.out); replace Y := Go.Lib.hid (row_next hb Y.out); replace hB := Go.Lib.hid (below_next hB.out hb); clear hb) | (go_at_call 14; (with_reducible refine (HMB.out _ _ R.out).mono ?_); rintro o w1 ⟨rfl, hb⟩; replace P := Go.Lib.hid (row_next hb P.out); replace R := Go.Lib.hid (row_next hb R.out); replace Z := Go.Lib.hid (row_next hb Z.out); replace Y := Go.Lib.hid (row_next hb Y.out); replace hB := Go.Lib.hid (below_next hB.out hb); clear hb) | ((with_reducible refine wlAt 60 rfl ?_); refine wpList_built rfl 27 [] rfl [] (by rfl) _ built_zbr ?_) | ((with_reducible refine wlAt 61 rfl ?_); refine wpList_built rfl 27 [] rfl [] (by rfl) _ built_zbr ?_) | ((with_reducible refine wlOp (.store 27 (.tmp 4) (.tmp 60)) rfl ?_); refine wpList_storeall rfl 27 (.tmp 4) (.tmp 60) rfl (w.heap.size + 2) rfl 5 Br.zero.at Br.zero.at rfl 27 size_br Z.out (fun i _ => Br.one _ i) ?_; replace Y := Go.Lib.hid (row_set' (g := w.heap.size + 2) (show w.heap.size + 3 ≠ w.heap.size + 2 by omega) Y.out (vrow 5 Br.zero.at)); replace Z := Go.Lib.hid (row_set Z.out (vrow 5 Br.zero.at)); replace hB := Go.Lib.hid (Below_setRow hB.out (show w.heap.size ≤ w.heap.size + 2 by omega) (vrow 5 Br.zero.at))) | ((with_reducible refine wlOp (.store 27 (.tmp 5) (.tmp 61)) rfl ?_); refine wpList_storeall rfl 27 (.tmp 5) (.tmp 61) rfl (w.heap.size + 3) rfl 5 Br.zero.at Br.zero.at rfl 27 size_br Y.out (fun i _ => Br.one _ i) ?_; replace Z := Go.Lib.hid (row_set' (g := w.heap.size + 3) (show w.heap.size + 2 ≠ w.heap.size + 3 by omega) Z.out (vrow 5 Br.zero.at)); replace Y := Go.Lib.hid (row_set Y.out (vrow 5 Br.zero.at)); replace hB := Go.Lib.hid (Below_setRow hB.out (show w.heap.size ≤ w.heap.size + 3 by omega) (vrow 5 Br.zero.at))))
        exact ret_rows2 Try.results6 (w.heap.size + 2) 5 Br.zero.at 27 _ Try.underlying27 rfl size_br (w.heap.size + 3) 5 Br.zero.at 27 _ Try.underlying27 rfl size_br (.int .i64 3) rfl rfl rfl rfl Z.out Y.out ⟨rfl, hB.out⟩
      · rw [hma] at HMA0
        have HMA := Go.Lib.hid HMA0
        clear HMA0
        cases hmb : (mixB a b).ok
        · obtain ⟨_, rfl, rfl, rfl⟩ : _ ∧ r = Br.zero ∧ q = Br.zero ∧ c = 3 := by
            rcases hres with ⟨h1, h2, _⟩ | h
            · simp_all
            · exact h
          rw [hmb] at HMB0
          have HMB := Go.Lib.hid HMB0
          clear HMB0 hres
          go_wp2_with (first | go_skip | ((with_reducible refine wlAt 43 rfl ?_); refine wpList_load1 rfl 22 (.tmp 42) rfl _ 3 rfl 5 (mixAk a b 3).at 27 _ Try.underlying22 rfl P.out (by omega) ?_; rw [Br.at_3, show (mixAk a b 3).water = a.water from rfl]) | ((with_reducible refine wlAt 45 rfl ?_); refine wpList_load1 rfl 22 (.tmp 44) rfl _ 3 rfl 5 (mixBk a b 3).at 27 _ Try.underlying22 rfl R.out (by omega) ?_; rw [Br.at_3, show (mixBk a b 3).water = b.water from rfl]) | ((with_reducible refine wlOp (.store 22 (.tmp 50) (.tmp 49)) rfl ?_); refine wpList_store1 rfl 22 (.tmp 50) (.tmp 49) rfl _ 3 rfl 5 (mixAk a b 3).at (.int .i16 ((a.water + b.water + 1) / 2)) rfl 27 size_i16 P.out (by omega) rfl ?_; rw [Br.water_at, mixA_end]; replace Y := Go.Lib.hid (row_set' (g := w.heap.size) (show w.heap.size + 3 ≠ w.heap.size by omega) Y.out (vrow 5 (mixA a b).at)); replace Z := Go.Lib.hid (row_set' (g := w.heap.size) (show w.heap.size + 2 ≠ w.heap.size by omega) Z.out (vrow 5 (mixA a b).at)); replace R := Go.Lib.hid (row_set' (g := w.heap.size) (show w.heap.size + 1 ≠ w.heap.size by omega) R.out (vrow 5 (mixA a b).at)); replace P := Go.Lib.hid (row_set P.out (vrow 5 (mixA a b).at)); replace hB := Go.Lib.hid (Below_setRow hB.out (Nat.le_refl _) (vrow 5 (mixA a b).at))) | ((with_reducible refine wlOp (.store 22 (.tmp 53) (.tmp 52)) rfl ?_); refine wpList_store1 rfl 22 (.tmp 53) (.tmp 52) rfl _ 3 rfl 5 (mixBk a b 3).at (.int .i16 ((a.water + b.water) / 2)) rfl 27 size_i16 R.out (by omega) rfl ?_; rw [Br.water_at, mixB_end]; replace Y := Go.Lib.hid (row_set' (g := w.heap.size + 1) (show w.heap.size + 3 ≠ w.heap.size + 1 by omega) Y.out (vrow 5 (mixB a b).at)); replace Z := Go.Lib.hid (row_set' (g := w.heap.size + 1) (show w.heap.size + 2 ≠ w.heap.size + 1 by omega) Z.out (vrow 5 (mixB a b).at)); replace P := Go.Lib.hid (row_set' (g := w.heap.size + 1) (show w.heap.size ≠ w.heap.size + 1 by omega) P.out (vrow 5 (mixB a b).at)); replace R := Go.Lib.hid (row_set R.out (vrow 5 (mixB a b).at)); replace hB := Go.Lib.hid (Below_setRow hB.out (show w.heap.size ≤ w.heap.size + 1 by omega) (vrow 5 (mixB a b).at))) | (go_at_call 14; (with_reducible refine (HMA.out _ _ P.out).mono ?_); rintro o w1 ⟨rfl, hb⟩; replace P := Go.Lib.hid (row_next hb P.out); replace R := Go.Lib.hid (row_next hb R.out); replace Z := Go.Lib.hid (row_next hb Z.out); replace Y := Go.Lib.hid (row_next hb Y.out); replace hB := Go.Lib.hid (below_next hB.out hb); clear hb) | (go_at_call 14; (with_reducible refine (HMB.out _ _ R.out).mono ?_); rintro o w1 ⟨rfl, hb⟩; replace P := Go.Lib.hid (row_next hb P.out); replace R := Go.Lib.hid (row_next hb R.out); replace Z := Go.Lib.hid (row_next hb Z.out); replace Y := Go.Lib.hid (row_next hb Y.out); replace hB := Go.Lib.hid (below_next hB.out hb); clear hb) | ((with_reducible refine wlAt 60 rfl ?_); refine wpList_built rfl 27 [] rfl [] (by rfl) _ built_zbr ?_) | ((with_reducible refine wlAt 61 rfl ?_); refine wpList_built rfl 27 [] rfl [] (by rfl) _ built_zbr ?_) | ((with_reducible refine wlOp (.store 27 (.tmp 4) (.tmp 60)) rfl ?_); refine wpList_storeall rfl 27 (.tmp 4) (.tmp 60) rfl (w.heap.size + 2) rfl 5 Br.zero.at Br.zero.at rfl 27 size_br Z.out (fun i _ => Br.one _ i) ?_; replace Y := Go.Lib.hid (row_set' (g := w.heap.size + 2) (show w.heap.size + 3 ≠ w.heap.size + 2 by omega) Y.out (vrow 5 Br.zero.at)); replace Z := Go.Lib.hid (row_set Z.out (vrow 5 Br.zero.at)); replace hB := Go.Lib.hid (Below_setRow hB.out (show w.heap.size ≤ w.heap.size + 2 by omega) (vrow 5 Br.zero.at))) | ((with_reducible refine wlOp (.store 27 (.tmp 5) (.tmp 61)) rfl ?_); refine wpList_storeall rfl 27 (.tmp 5) (.tmp 61) rfl (w.heap.size + 3) rfl 5 Br.zero.at Br.zero.at rfl 27 size_br Y.out (fun i _ => Br.one _ i) ?_; replace Z := Go.Lib.hid (row_set' (g := w.heap.size + 3) (show w.heap.size + 2 ≠ w.heap.size + 3 by omega) Z.out (vrow 5 Br.zero.at)); replace Y := Go.Lib.hid (row_set Y.out (vrow 5 Br.zero.at)); replace hB := Go.Lib.hid (Below_setRow hB.out (show w.heap.size ≤ w.heap.size + 3 by omega) (vrow 5 Br.zero.at))))
          exact ret_rows2 Try.results6 (w.heap.size + 2) 5 Br.zero.at 27 _ Try.underlying27 rfl size_br (w.heap.size + 3) 5 Br.zero.at 27 _ Try.underlying27 rfl size_br (.int .i64 3) rfl rfl rfl rfl Z.out Y.out ⟨rfl, hB.out⟩
        · obtain ⟨rfl, rfl, rfl⟩ : r = mixA a b ∧ q = mixB a b ∧ c = 0 := by
            rcases hres with ⟨h1, h2, h⟩ | ⟨h, _⟩
            · exact h
            · simp_all
          rw [hmb] at HMB0
          have HMB := Go.Lib.hid HMB0
          clear HMB0 hres
          go_wp2_with (first | go_skip | ((with_reducible refine wlAt 43 rfl ?_); refine wpList_load1 rfl 22 (.tmp 42) rfl _ 3 rfl 5 (mixAk a b 3).at 27 _ Try.underlying22 rfl P.out (by omega) ?_; rw [Br.at_3, show (mixAk a b 3).water = a.water from rfl]) | ((with_reducible refine wlAt 45 rfl ?_); refine wpList_load1 rfl 22 (.tmp 44) rfl _ 3 rfl 5 (mixBk a b 3).at 27 _ Try.underlying22 rfl R.out (by omega) ?_; rw [Br.at_3, show (mixBk a b 3).water = b.water from rfl]) | ((with_reducible refine wlOp (.store 22 (.tmp 50) (.tmp 49)) rfl ?_); refine wpList_store1 rfl 22 (.tmp 50) (.tmp 49) rfl _ 3 rfl 5 (mixAk a b 3).at (.int .i16 ((a.water + b.water + 1) / 2)) rfl 27 size_i16 P.out (by omega) rfl ?_; rw [Br.water_at, mixA_end]; replace Y := Go.Lib.hid (row_set' (g := w.heap.size) (show w.heap.size + 3 ≠ w.heap.size by omega) Y.out (vrow 5 (mixA a b).at)); replace Z := Go.Lib.hid (row_set' (g := w.heap.size) (show w.heap.size + 2 ≠ w.heap.size by omega) Z.out (vrow 5 (mixA a b).at)); replace R := Go.Lib.hid (row_set' (g := w.heap.size) (show w.heap.size + 1 ≠ w.heap.size by omega) R.out (vrow 5 (mixA a b).at)); replace P := Go.Lib.hid (row_set P.out (vrow 5 (mixA a b).at)); replace hB := Go.Lib.hid (Below_setRow hB.out (Nat.le_refl _) (vrow 5 (mixA a b).at))) | ((with_reducible refine wlOp (.store 22 (.tmp 53) (.tmp 52)) rfl ?_); refine wpList_store1 rfl 22 (.tmp 53) (.tmp 52) rfl _ 3 rfl 5 (mixBk a b 3).at (.int .i16 ((a.water + b.water) / 2)) rfl 27 size_i16 R.out (by omega) rfl ?_; rw [Br.water_at, mixB_end]; replace Y := Go.Lib.hid (row_set' (g := w.heap.size + 1) (show w.heap.size + 3 ≠ w.heap.size + 1 by omega) Y.out (vrow 5 (mixB a b).at)); replace Z := Go.Lib.hid (row_set' (g := w.heap.size + 1) (show w.heap.size + 2 ≠ w.heap.size + 1 by omega) Z.out (vrow 5 (mixB a b).at)); replace P := Go.Lib.hid (row_set' (g := w.heap.size + 1) (show w.heap.size ≠ w.heap.size + 1 by omega) P.out (vrow 5 (mixB a b).at)); replace R := Go.Lib.hid (row_set R.out (vrow 5 (mixB a b).at)); replace hB := Go.Lib.hid (Below_setRow hB.out (show w.heap.size ≤ w.heap.size + 1 by omega) (vrow 5 (mixB a b).at))) | (go_at_call 14; (with_reducible refine (HMA.out _ _ P.out).mono ?_); rintro o w1 ⟨rfl, hb⟩; replace P := Go.Lib.hid (row_next hb P.out); replace R := Go.Lib.hid (row_next hb R.out); replace Z := Go.Lib.hid (row_next hb Z.out); replace Y := Go.Lib.hid (row_next hb Y.out); replace hB := Go.Lib.hid (below_next hB.out hb); clear hb) | (go_at_call 14; (with_reducible refine (HMB.out _ _ R.out).mono ?_); rintro o w1 ⟨rfl, hb⟩; replace P := Go.Lib.hid (row_next hb P.out); replace R := Go.Lib.hid (row_next hb R.out); replace Z := Go.Lib.hid (row_next hb Z.out); replace Y := Go.Lib.hid (row_next hb Y.out); replace hB := Go.Lib.hid (below_next hB.out hb); clear hb) | ((with_reducible refine wlAt 60 rfl ?_); refine wpList_built rfl 27 [] rfl [] (by rfl) _ built_zbr ?_) | ((with_reducible refine wlAt 61 rfl ?_); refine wpList_built rfl 27 [] rfl [] (by rfl) _ built_zbr ?_) | ((with_reducible refine wlOp (.store 27 (.tmp 4) (.tmp 60)) rfl ?_); refine wpList_storeall rfl 27 (.tmp 4) (.tmp 60) rfl (w.heap.size + 2) rfl 5 Br.zero.at Br.zero.at rfl 27 size_br Z.out (fun i _ => Br.one _ i) ?_; replace Y := Go.Lib.hid (row_set' (g := w.heap.size + 2) (show w.heap.size + 3 ≠ w.heap.size + 2 by omega) Y.out (vrow 5 Br.zero.at)); replace Z := Go.Lib.hid (row_set Z.out (vrow 5 Br.zero.at)); replace hB := Go.Lib.hid (Below_setRow hB.out (show w.heap.size ≤ w.heap.size + 2 by omega) (vrow 5 Br.zero.at))) | ((with_reducible refine wlOp (.store 27 (.tmp 5) (.tmp 61)) rfl ?_); refine wpList_storeall rfl 27 (.tmp 5) (.tmp 61) rfl (w.heap.size + 3) rfl 5 Br.zero.at Br.zero.at rfl 27 size_br Y.out (fun i _ => Br.one _ i) ?_; replace Z := Go.Lib.hid (row_set' (g := w.heap.size + 3) (show w.heap.size + 2 ≠ w.heap.size + 3 by omega) Z.out (vrow 5 Br.zero.at)); replace Y := Go.Lib.hid (row_set Y.out (vrow 5 Br.zero.at)); replace hB := Go.Lib.hid (Below_setRow hB.out (show w.heap.size ≤ w.heap.size + 3 by omega) (vrow 5 Br.zero.at))))
          refine Code.wp_mono (Q := fun e a' W' => e = .normal ∧ a'.tmps.getD 4 undef = .pointer (some ⟨w.heap.size + 2, 0, none⟩) ∧ a'.tmps.getD 5 undef = .pointer (some ⟨w.heap.size + 3, 0, none⟩) ∧ a'.tmps.getD 6 undef = .int .i64 0 ∧ a'.defers = [] ∧ Below w.heap.size w W' ∧ W'.heap[w.heap.size + 2]? = some (.cells (vrow 5 (mixA a b).at) 27) ∧ W'.heap[w.heap.size + 3]? = some (.cells (vrow 5 (mixB a b).at) 27)) ?_ ?_
          rotate_left
          · refine wp_region_held_drew (S := fun W' => Below w.heap.size w W' ∧ W'.heap[w.heap.size]? = some (.cells (vrow 5 (mixA a b).at) 27) ∧ W'.heap[w.heap.size + 1]? = some (.cells (vrow 5 (mixB a b).at) 27)) (by kernel_rfl) ⟨hB.out.drew, P.out, R.out⟩ (fun hH => ?_)
            have V4 := drw Z.out
            have V5 := drw Y.out
            generalize World.drew _ = W at hH V4 V5 ⊢
            refine wpAnyH_take (i := 0) (v := (.agg (vrow 5 (mixA a b).at))) rfl (by kernel_rfl) (by kernel_rfl) (by kernel_rfl) (fun _ _ _ h => by cases h.1) (yields_row (by rfl) 27 _ rfl (w.heap.size) rfl 5 (mixA a b).at 27 _ Try.underlying27 rfl size_br (fun _ h => h.2.1)) hH ?_
            (try simp only [Act.put, List.setIfInBounds_toArray, List.set_cons_succ, List.set_cons_zero])
            refine wpAnyH_take (i := 1) (v := (.agg (vrow 5 (mixB a b).at))) rfl (by kernel_rfl) (by kernel_rfl) (by kernel_rfl) (fun _ _ _ h => by cases h.1) (yields_row (by rfl) 27 _ rfl (w.heap.size + 1) rfl 5 (mixB a b).at 27 _ Try.underlying27 rfl size_br (fun _ h => h.2.2)) hH ?_
            (try simp only [Act.put, List.setIfInBounds_toArray, List.set_cons_succ, List.set_cons_zero])
            refine wpAnyH_ready (rs := [2]) (by kernel_rfl) (by simp) (AllReadyH.cons rfl (fun K hK => ?_) AllReadyH.nil)
            rw [if_pos (by rfl)]
            unfold Oper.wp
            rw [run_storemid 27 (.tmp 4) (.tmp 62) rfl (w.heap.size + 2) 0 rfl 5 5 Br.zero.at (mixA a b).at rfl 27 size_br V4 (by omega) (fun i _ => Br.one _ i), vrow_over_all, Oper.upon_skip]
            replace V4 := row_set V4 (vrow 5 (mixA a b).at)
            replace V5 := row_set' (show w.heap.size + 3 ≠ w.heap.size + 2 by omega) V5 (vrow 5 (mixA a b).at)
            have hH2 : Below w.heap.size w (W.setRow (w.heap.size + 2) (vrow 5 (mixA a b).at)) ∧ (W.setRow (w.heap.size + 2) (vrow 5 (mixA a b).at)).heap[w.heap.size]? = some (.cells (vrow 5 (mixA a b).at) 27) ∧ (W.setRow (w.heap.size + 2) (vrow 5 (mixA a b).at)).heap[w.heap.size + 1]? = some (.cells (vrow 5 (mixB a b).at) 27) := ⟨Below_setRow hH.1 (by omega) _, row_set' (by omega) hH.2.1 _, row_set' (by omega) hH.2.2 _⟩
            refine hK.out _ _ hH2 (fun hH => ?_)
            clear hK K hH2
            (try simp only [Act.put, List.setIfInBounds_toArray, List.set_cons_succ, List.set_cons_zero])
            generalize (W.setRow (w.heap.size + 2) (vrow 5 (mixA a b).at)) = Y0 at hH V4 V5 ⊢
            refine wpAnyH_ready (rs := [3]) (by kernel_rfl) (by simp) (AllReadyH.cons rfl (fun K hK => ?_) AllReadyH.nil)
            rw [if_pos (by rfl)]
            unfold Oper.wp
            rw [run_storemid 27 (.tmp 5) (.tmp 63) rfl (w.heap.size + 3) 0 rfl 5 5 Br.zero.at (mixB a b).at rfl 27 size_br V5 (by omega) (fun i _ => Br.one _ i), vrow_over_all, Oper.upon_skip]
            replace V4 := row_set' (show w.heap.size + 2 ≠ w.heap.size + 3 by omega) V4 (vrow 5 (mixB a b).at)
            replace V5 := row_set V5 (vrow 5 (mixB a b).at)
            have hH2 : Below w.heap.size w (Y0.setRow (w.heap.size + 3) (vrow 5 (mixB a b).at)) ∧ (Y0.setRow (w.heap.size + 3) (vrow 5 (mixB a b).at)).heap[w.heap.size]? = some (.cells (vrow 5 (mixA a b).at) 27) ∧ (Y0.setRow (w.heap.size + 3) (vrow 5 (mixB a b).at)).heap[w.heap.size + 1]? = some (.cells (vrow 5 (mixB a b).at) 27) := ⟨Below_setRow hH.1 (by omega) _, row_set' (by omega) hH.2.1 _, row_set' (by omega) hH.2.2 _⟩
            refine hK.out _ _ hH2 (fun hH => ?_)
            clear hK K hH2
            (try simp only [Act.put, List.setIfInBounds_toArray, List.set_cons_succ, List.set_cons_zero])
            generalize (Y0.setRow (w.heap.size + 3) (vrow 5 (mixB a b).at)) = Y1 at hH V4 V5 ⊢
            refine wpAnyH_take (i := 4) (v := (.int .i64 0)) rfl (by kernel_rfl) (by kernel_rfl) (by kernel_rfl) (fun _ _ _ h => by cases h.1) (.inl ⟨by rfl, fun w _ => by go_simp⟩) hH ?_
            (try simp only [Act.put, List.setIfInBounds_toArray, List.set_cons_succ, List.set_cons_zero])
            refine wpAnyH_done (by kernel_rfl) ?_ _
            exact ⟨rfl, rfl, rfl, rfl, rfl, hH.1, V4, V5⟩
          rintro e1 a1 W1 ⟨rfl, h_4, h_5, h_6, hdf, hB1, V4, V5⟩
          go_wp2
          exact ret_rows2 Try.results6 (w.heap.size + 2) 5 (mixA a b).at 27 _ Try.underlying27 rfl size_br (w.heap.size + 3) 5 (mixB a b).at 27 _ Try.underlying27 rfl size_br (.int .i64 0) h_4 h_5 h_6 hdf V4 V5 ⟨rfl, hB1⟩
end Go.Proofs.Ythkkbkpfomhdeaa
