import Derived.Deep.RegionHeld3
import Derived.Test.YtfgcpiipndhllaaDoorDark
import Derived.Test.YtfgcpiipndhllaaDoorDip
import Derived.Test.YtfgcpiipndhllaaDoorSpot
import Derived.Test.YtfgcpiipndhllaaDoorG1
namespace Go.Proofs.YtfgcpiipndhllaaDoor
open Go.RowKit
set_option maxRecDepth 100000
set_option linter.unusedVariables false
set_option linter.unusedSimpArgs false
theorem drwL {w : World} {b : Nat} {x : Obj} (h : w.heap[b]? = some x) : w.drew.heap[b]? = some x := h
/-- THE RESULTS: two rows and a slot. -/
theorem ret_rowsL {P : Program} {fn : Func} {R : Ending → World → Prop} {a : Act} {w : World} {p u q : Tmp} {ty ty' : TypeId} (hr : fn.results = #[.cell p ty, .cell u ty', .tmp q]) (b : Nat) (n : Nat) (f : Nat → Value) (t : TypeId) (d : TypeDesc) (hu : P.underlying ty = some d) (hd : d.isRow = true) (hi : (P.info? ty).map (·.size) = some n) (b' : Nat) (n' : Nat) (f' : Nat → Value) (t' : TypeId) (d' : TypeDesc) (hu' : P.underlying ty' = some d') (hd' : d'.isRow = true) (hi' : (P.info? ty').map (·.size) = some n') (v : Value)
    (hp : a.tmps.getD p undef = .pointer (some ⟨b, 0, none⟩)) (hp' : a.tmps.getD u undef = .pointer (some ⟨b', 0, none⟩)) (hv : a.tmps.getD q undef = v) (hdf : a.defers = []) (hg : w.heap[b]? = some (.cells (vrow n f) t)) (hg' : w.heap[b']? = some (.cells (vrow n' f') t')) (h : R (.returned (.tuple #[.agg (vrow n f), .agg (vrow n' f'), v])) w) : bodyPost P fn R .ret a w := by
  refine bodyPost_ret ?_ hdf h
  have hl := run_loadVar_row (P := P) w b t ty (vrow n f) (0, 0) d hg hu (by cases d <;> first | rfl | exact hd) (by rw [vrow_size]; exact hi)
  have hl' := run_loadVar_row (P := P) w b' t' ty' (vrow n' f') (0, 0) d' hg' hu' (by cases d' <;> first | rfl | exact hd') (by rw [vrow_size]; exact hi')
  have hp1 : a.tmps[p]?.getD undef = .pointer (some ⟨b, 0, none⟩) := by simpa using hp
  have hp2 : a.tmps[u]?.getD undef = .pointer (some ⟨b', 0, none⟩) := by simpa using hp'
  have hv1 : a.tmps[q]?.getD undef = v := by simpa using hv
  simp [results, hr, hp1, hp2, hv1, asAddr, hl, hl', Result.andThen]
theorem lminL (a b : Int) (w : World) : Calls Tryd.prog 76 #[.int .i64 a, .int .i64 b] w fun e w' => e = .returned (.int .i64 (min a b)) ∧ Below w.heap.size w w' := by
  by_cases h : a < b
  · rw [Int.min_eq_left (by omega)]
    have hd : decide (a < b) = true := by simpa using h
    go_enter Tryd.func76, Tryd.ntmps76
    go_wp2
    go_ret
    exact ⟨rfl, Below.refl _ _⟩
  · rw [Int.min_eq_right (by omega)]
    have hd : decide (a < b) = false := by simpa using h
    go_enter Tryd.func76, Tryd.ntmps76
    go_wp2
    go_ret
    exact ⟨rfl, Below.refl _ _⟩
/-- a dye is written -/
def Sh.put (s : Sh) (j : Nat) (v : Int) : Sh := ⟨s.wide, s.high, s.wet, fun i => if i = j then v else s.dye i, s.wax⟩
theorem Sh.put_at (s : Sh) (o j : Nat) (ho : o = 66 + j) (hj : j < 192) (v : Int) : vrow 266 (over s.at o 1 fun _ => .int .i16 v) = vrow 266 (s.put j v).at := vrow_ext _ _ _ fun i hi => by
  subst ho
  unfold over Sh.at Sh.put
  dsimp only
  by_cases h : i = 66 + j
  · subst h
    rw [if_pos (by omega), if_neg (by omega), if_neg (by omega), if_neg (by omega), if_pos (by omega), if_pos (by omega)]
  · rw [if_neg (by omega)]
    by_cases h0 : i = 0
    · rw [if_pos h0, if_pos h0]
    · rw [if_neg h0, if_neg h0]
      by_cases h1 : i = 1
      · rw [if_pos h1, if_pos h1]
      · rw [if_neg h1, if_neg h1]
        by_cases h2 : i < 66
        · rw [if_pos h2, if_pos h2]
        · rw [if_neg h2, if_neg h2]
          by_cases h3 : i < 258
          · rw [if_pos h3, if_pos h3, if_neg (by omega)]
          · rw [if_neg h3, if_neg h3]
/-- what is lifted of an ink -/
def liftN (b : Br) (v p : Int) : Int := min (v * p / 16) (900 - b.sum)
def liftB (s : Sh) (b : Br) (o : Nat) (p : Int) : Nat → Br
  | 0 => b
  | k + 1 => (liftB s b o p k).setDye k ((liftB s b o p k).dye k + liftN (liftB s b o p k) (s.dye (o + k)) p)
def liftH (s : Sh) (b : Br) (o : Nat) (p : Int) : Nat → Sh
  | 0 => s
  | k + 1 => (liftH s b o p k).put (o + k) (s.dye (o + k) - liftN (liftB s b o p k) (s.dye (o + k)) p)
theorem liftH_dye (s : Sh) (b : Br) (o : Nat) (p : Int) : ∀ k j, k ≤ j → (liftH s b o p k).dye (o + j) = s.dye (o + j)
  | 0, _, _ => rfl
  | k + 1, j, h => by
    show (if o + j = o + k then _ else (liftH s b o p k).dye (o + j)) = _
    rw [if_neg (by omega), liftH_dye s b o p k j (by omega)]
theorem Br.setDye_sum (b : Br) (k : Nat) (hk : k < 3) (n : Int) : (b.setDye k (b.dye k + n)).sum = b.sum + n := by
  have : k = 0 ∨ k = 1 ∨ k = 2 := by omega
  unfold Br.sum Br.setDye
  dsimp only
  rcases this with rfl | rfl | rfl <;> simp <;> omega
/-- the brush's bounds on the way -/
structure Br.lb (b : Br) : Prop where
  dye : ∀ i, i < 3 → 0 ≤ b.dye i
  sum : b.sum ≤ 900
  fit : b.fit
theorem Br.lb_le {b : Br} (h : b.lb) (i : Nat) (hi : i < 3) : 0 ≤ b.dye i ∧ b.dye i ≤ 900 := by
  have h0 := h.dye 0 (by omega); have h1 := h.dye 1 (by omega); have h2 := h.dye 2 (by omega); have hs := h.sum
  unfold Br.sum at hs
  have : i = 0 ∨ i = 1 ∨ i = 2 := by omega
  rcases this with rfl | rfl | rfl <;> omega
theorem Br.lb_sum {b : Br} (h : b.lb) : 0 ≤ b.sum ∧ b.sum ≤ 900 := by
  have h0 := h.dye 0 (by omega); have h1 := h.dye 1 (by omega); have h2 := h.dye 2 (by omega); have hs := h.sum
  unfold Br.sum at hs ⊢; omega
theorem liftN_bd {b : Br} (h : b.lb) {v p : Int} (hv : 0 ≤ v ∧ v ≤ 1000) (hp : 0 ≤ p ∧ p ≤ 16) : 0 ≤ v * p ∧ v * p ≤ 16000 ∧ 0 ≤ liftN b v p ∧ liftN b v p ≤ 900 - b.sum ∧ liftN b v p ≤ v := by
  have h1 : 0 ≤ v * p := Int.mul_nonneg hv.1 hp.1
  have h2 : v * p ≤ v * 16 := Int.mul_le_mul_of_nonneg_left hp.2 hv.1
  have hs := Br.lb_sum h
  unfold liftN
  omega
theorem liftB_lb (s : Sh) (b : Br) (o : Nat) (p : Int) (h : b.lb) (hp : 0 ≤ p ∧ p ≤ 16) (hv : ∀ k, k < 3 → 0 ≤ s.dye (o + k) ∧ s.dye (o + k) ≤ 1000) : ∀ k, k ≤ 3 → (liftB s b o p k).lb
  | 0, _ => h
  | k + 1, hk => by
    have ih := liftB_lb s b o p h hp hv k (by omega)
    have hb := liftN_bd ih (hv k (by omega)) hp
    have hk2 := Br.lb_le ih k (by omega)
    refine ⟨fun i hi => ?_, ?_, ⟨fun i hi => ?_, ih.fit.water, ih.fit.share⟩⟩
    · show 0 ≤ if i = k then _ else _
      split
      · omega
      · exact ih.dye i hi
    · show ((liftB s b o p k).setDye k ((liftB s b o p k).dye k + liftN (liftB s b o p k) (s.dye (o + k)) p)).sum ≤ 900
      rw [Br.setDye_sum _ _ (by omega)]; omega
    · show -32768 ≤ (if i = k then _ else _) ∧ (if i = k then _ else _) ≤ 32767
      have := Br.lb_le ih i hi
      have := Br.lb_sum ih
      split <;> omega
theorem Br.ok_lb (b : Br) (hf : b.fit) (h : b.ok = true) : b.lb := by
  obtain ⟨g0, g1, g2, g3, _⟩ := b.ok_iff.1 h
  refine ⟨fun i hi => ?_, g3, hf⟩
  have : i = 0 ∨ i = 1 ∨ i = 2 := by omega
  rcases this with rfl | rfl | rfl <;> assumption
theorem ok_dyes (s : Sh) (hv : okI s = true) (x y : Nat) (hx : x < 8) (hy : y < 8) : ∀ k, k < 3 → 0 ≤ s.dye (24 * y + 3 * x + k) ∧ s.dye (24 * y + 3 * x + k) ≤ 1000 := fun k hk => by
  obtain ⟨_, h0, h1, h2⟩ := ok_bounds s hv x y hx hy
  have : k = 0 ∨ k = 1 ∨ k = 2 := by omega
  rcases this with rfl | rfl | rfl
  · exact h0
  · exact h1
  · exact h2
end Go.Proofs.YtfgcpiipndhllaaDoor
