import Derived.Deep.RegionHeld3
import Derived.Test.YthienbbecbakjaaDoorGround
import Derived.Test.YthienbbecbakjaaDoorIgive
namespace Go.Proofs.YthienbbecbakjaaDoor
open Go.RowKit
set_option maxRecDepth 100000
set_option linter.unusedVariables false
set_option linter.unusedSimpArgs false
theorem pvals_take (s : Sh) (gl : Nat) : ∀ (l : List Sp8) (m i : Nat) (hi : i < l.length), (pvals s gl m l)[i * 3]? = some (.int .i8 (l[i]'hi).1.1) ∧ (pvals s gl m l)[i * 3 + 1]? = some (.int .i8 (l[i]'hi).1.2) ∧ (pvals s gl m l)[i * 3 + 2]? = some (besV gl (m + (nbAll s (l.take i)).length) (m + (nbAll s (l.take i)).length + (nbs s (l[i]'hi).1.1 (l[i]'hi).1.2 4).length))
  | [], _, _, hi => by simp at hi
  | p :: l, m, 0, hi => by
    show ([_, _, _] ++ _)[0]? = _ ∧ ([_, _, _] ++ _)[1]? = _ ∧ ([_, _, _] ++ _)[2]? = _
    simp [nbAll]
  | p :: l, m, i + 1, hi => by
    obtain ⟨h1, h2, h3⟩ := pvals_take s gl l (m + (nbs s p.1.1 p.1.2 4).length) i (by simpa using hi)
    have e : pvals s gl m (p :: l) = [.int .i8 p.1.1, .int .i8 p.1.2, besV gl m (m + (nbs s p.1.1 p.1.2 4).length)] ++ pvals s gl (m + (nbs s p.1.1 p.1.2 4).length) l := rfl
    have em : m + (nbs s p.1.1 p.1.2 4).length + (nbAll s (l.take i)).length = m + (nbAll s ((p :: l).take (i + 1))).length := by simp [nbAll]; omega
    rw [em] at h3
    rw [e, show (i + 1) * 3 = i * 3 + 3 by omega, show i * 3 + 3 + 1 = i * 3 + 1 + 3 by omega, show i * 3 + 3 + 2 = i * 3 + 2 + 3 by omega]
    exact ⟨h1, h2, h3⟩
theorem own_row_of {W : World} {base g cap size n : Nat} {t : TypeId} {xs : List Value} (h : W.ownsRow base t size (.slice (some ⟨g, 0, none⟩) n cap) n xs) : ∃ f : Nat → Value, W.heap[g]? = some (.cells (vrow (cap * size) f) t) ∧ n ≤ cap ∧ ∀ (j : Nat) (u : Value), j < n * size → xs[j]? = some u → f j = u := by
  rcases h.2 with ⟨hv, _⟩ | ⟨g', cap', cur, hv, _, hg, hcap, _, hsz, ht⟩
  · cases hv
  · simp only [Value.slice.injEq, Option.some.injEq, Addr.mk.injEq] at hv
    obtain ⟨⟨rfl, _⟩, _, rfl⟩ := hv
    refine ⟨fun i => cur.getD i undef, ?_, hcap, ?_⟩
    · rw [hg]
      congr 2
      apply Array.ext_getElem?
      intro i
      by_cases hi : i < cap * size
      · rw [vrow_get _ _ _ hi, Array.getD_eq_getD_getElem?, Array.getElem?_eq_getElem (by omega)]; rfl
      · rw [vrow_none _ _ _ hi, Array.getElem?_eq_none (by omega)]
    · intro j u hj hu
      show cur.getD j undef = u
      rw [← ht, List.getElem?_take, if_pos hj] at hu
      rw [Array.getD_eq_getD_getElem?]
      simp only [Array.getElem?_toList] at hu
      rw [hu]; rfl
theorem nbAll_get (s : Sh) : ∀ (l : List Sp8) (i : Nat) (hi : i < l.length) (j : Nat) (hj : j < (nbs s (l[i]'hi).1.1 (l[i]'hi).1.2 4).length), (nbAll s l)[(nbAll s (l.take i)).length + j]? = some ((nbs s (l[i]'hi).1.1 (l[i]'hi).1.2 4)[j]'hj)
  | [], _, hi, _, _ => by simp at hi
  | p :: l, 0, hi, j, hj => by
    have hj' : j < (nbs s p.1.1 p.1.2 4).length := hj
    simp only [nbAll, List.take_zero, List.flatMap_nil, List.length_nil, Nat.zero_add, List.flatMap_cons]
    rw [List.getElem?_append_left hj', List.getElem?_eq_getElem hj']
    rfl
  | p :: l, i + 1, hi, j, hj => by
    have ih := nbAll_get s l i (by simpa using hi) j hj
    simp only [nbAll, List.take_succ_cons, List.flatMap_cons, List.length_append] at ih ⊢
    rw [List.getElem?_append_right (by omega), show (nbs s p.1.1 p.1.2 4).length + (List.flatMap (fun p => nbs s p.1.1 p.1.2 4) (l.take i)).length + j - (nbs s p.1.1 p.1.2 4).length = (List.flatMap (fun p => nbs s p.1.1 p.1.2 4) (l.take i)).length + j by omega]
    exact ih
/-- what the ground's blocks hold -/
structure GRow (W : World) (gp gl : Nat) (s : Sh) (l : List Sp8) (f f2 : Nat → Value) : Prop where
  pl : W.heap[gp]? = some (.cells (vrow (64 * 3) f) 91)
  li : W.heap[gl]? = some (.cells (vrow (256 * 2) f2) 61)
  hl : l.length ≤ 64
  at_ : ∀ (i : Nat) (hi : i < l.length), vrow 3 (fun q => f (i * 3 + q)) = #[.int .i8 (l[i]'hi).1.1, .int .i8 (l[i]'hi).1.2, besV gl (nbAll s (l.take i)).length ((nbAll s (l.take i)).length + (nbs s (l[i]'hi).1.1 (l[i]'hi).1.2 4).length)]
  nb : ∀ (i : Nat) (p : Sp8), l[i]? = some p → ∀ (j : Nat) (q : Sp8), (nbs s p.1.1 p.1.2 4)[j]? = some q → (nbAll s (l.take i)).length + j < 256 ∧ vrow 2 (fun r => f2 (((nbAll s (l.take i)).length + j) * 2 + r)) = #[.int .i8 q.1.1, .int .i8 q.1.2]
theorem GroundM.rows {W : World} {base gp gl : Nat} {s : Sh} {l : List Sp8} (h : GroundM W base gp gl s l) : ∃ f f2, GRow W gp gl s l f f2 := by
  obtain ⟨f, hf, hfc, hfv⟩ := own_row_of h.places
  obtain ⟨f2, hf2, hfc2, hfv2⟩ := own_row_of h.list
  refine ⟨f, f2, hf, hf2, hfc, ?_, ?_⟩
  · intro i hi
    obtain ⟨h1, h2, h3⟩ := pvals_take s gl l 0 i hi
    rw [Nat.zero_add] at h3
    refine vrow_ext 3 _ (fun q => (#[.int .i8 (l[i]'hi).1.1, .int .i8 (l[i]'hi).1.2, besV gl (nbAll s (l.take i)).length ((nbAll s (l.take i)).length + (nbs s (l[i]'hi).1.1 (l[i]'hi).1.2 4).length)] : Array Value).getD q undef) fun q hq => ?_
    have : q = 0 ∨ q = 1 ∨ q = 2 := by omega
    rcases this with rfl | rfl | rfl
    · exact hfv _ _ (by omega) h1
    · exact hfv _ _ (by omega) h2
    · exact hfv _ _ (by omega) h3
  · intro i p hp j q hq
    obtain ⟨hi, rfl⟩ := List.getElem?_eq_some_iff.1 hp
    obtain ⟨hj, rfl⟩ := List.getElem?_eq_some_iff.1 hq
    have hg := nbAll_get s l i hi j hj
    have hlt : (nbAll s (l.take i)).length + j < (nbAll s l).length := (List.getElem?_eq_some_iff.1 hg).1
    have hge := (List.getElem?_eq_some_iff.1 hg).2
    obtain ⟨v1, v2⟩ := vals_get (nbAll s l) _ hlt
    rw [hge] at v1 v2
    refine ⟨by omega, ?_⟩
    refine vrow_ext 2 _ (fun q => (#[.int .i8 ((nbs s (l[i]'hi).1.1 (l[i]'hi).1.2 4)[j]'hj).1.1, .int .i8 ((nbs s (l[i]'hi).1.1 (l[i]'hi).1.2 4)[j]'hj).1.2] : Array Value).getD q undef) fun q hq => ?_
    have : q = 0 ∨ q = 1 := by omega
    rcases this with rfl | rfl
    · exact hfv2 _ _ (by omega) (by rw [Nat.add_zero, Nat.mul_comm]; exact v1)
    · exact hfv2 _ _ (by omega) (by rw [Nat.mul_comm]; exact v2)
theorem run_filter (s : Sh) : ∀ (l : List Sp8) (T : Sh × Int), (dryL s l).foldl (cellRun s) T = l.foldl (cellRun s) T
  | [], _ => rfl
  | p :: l, T => by
    unfold dryL
    rw [List.filter_cons]
    cases h : waxB s p.1.1 p.1.2
    · rw [if_pos (by simp)]; exact run_filter s l _
    · rw [if_neg (by simp), List.foldl_cons, show cellRun s T p = T by unfold cellRun; rw [h, if_pos rfl]]; exact run_filter s l T
theorem grown_trans {A B C : World} {row : Option Nat} (h : A.grownBy B row) (g : B.grownBy C row) : A.grownBy C row := ⟨g.os.trans h.os, g.tape.trans h.tape, g.output.trans h.output, Nat.le_trans h.size g.size, fun k hk hne => (g.block k (Nat.lt_of_lt_of_le hk h.size) hne).trans (h.block k hk hne)⟩
theorem bes_slice (gl m k : Nat) : ∃ ad, besV gl m (m + k) = .slice (some ⟨gl, ad, none⟩) k k ∧ (0 < k → ad = m * 2) := by
  refine ⟨if m + k = m then 0 else m * 2, ?_, fun h => if_neg (by omega)⟩
  unfold besV
  rw [Nat.add_sub_cancel_left]
  split <;> rfl
def plf (x y : Int) (b : Value) : Nat → Value := fun q => if q = 0 then .int .i8 x else if q = 1 then .int .i8 y else b
theorem plf_0 (x y : Int) (b : Value) : plf x y b 0 = .int .i8 x := rfl
theorem plf_1 (x y : Int) (b : Value) : plf x y b 1 = .int .i8 y := rfl
theorem plf_2 (x y : Int) (b : Value) : plf x y b 2 = b := rfl
theorem plf_spot (x y : Int) (b : Value) : vrow 2 (fun q => plf x y b (0 + q)) = vrow 2 (spAt x y) := rfl
theorem rw_plc : (Tryd.prog.underlying 91).map (·.isRow) = some true := by kernel_rfl
theorem size_plc : (Tryd.prog.info? 91).map (·.size) = some 3 := by kernel_rfl
theorem zero_plc : ∀ w, (zeroValue 91).run Tryd.prog w = .ok (.agg (vrow 3 (plf 0 0 (.slice none 0 0)))) w := fun _ => by kernel_rfl
theorem plf_one (x y : Int) (b : Value) (hb : b.oneCell' = true) (i : Nat) : (plf x y b i).oneCell' = true := by
  unfold plf
  split
  · rfl
  · split
    · rfl
    · exact hb
end Go.Proofs.YthienbbecbakjaaDoor
