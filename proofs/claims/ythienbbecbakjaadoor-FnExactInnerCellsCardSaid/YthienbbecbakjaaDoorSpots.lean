import Derived.Laws.AppendOwn
import Derived.Laws.Append
import Derived.OwnWalk
import Derived.Deep.AppendLies
import Derived.Test.YthienbbecbakjaaDoorG1
import Derived.Test.YthienbbecbakjaaDoorReaders2
namespace Go.Proofs.YthienbbecbakjaaDoor
open Go.RowKit
set_option maxRecDepth 100000
set_option linter.unusedVariables false
theorem info_spot : (Tryd.prog.info? 61).map (fun i => (i.zero, i.size, i.bytes)) = some (some (.agg #[.int .i8 0, .int .i8 0]), 2, 2) := by kernel_rfl
def vals (l : List Sp8) : List Value := l.flatMap fun p => [.int .i8 p.1.1, .int .i8 p.1.2]
theorem vals_app (l m : List Sp8) : vals (l ++ m) = vals l ++ vals m := by simp [vals]
theorem vals_one (p : Sp8) : vals [p] = [.int .i8 p.1.1, .int .i8 p.1.2] := by simp [vals]
theorem vals_len (l : List Sp8) : (vals l).length = l.length * 2 := by
  induction l with
  | nil => rfl
  | cons p l ih => simp only [vals, List.flatMap_cons, List.length_append, List.length_cons, List.length_nil] at ih ⊢; omega
theorem vals_get (l : List Sp8) (i : Nat) (hi : i < l.length) : (vals l)[2 * i]? = some (.int .i8 (l[i]'hi).1.1) ∧ (vals l)[2 * i + 1]? = some (.int .i8 (l[i]'hi).1.2) := by
  induction l generalizing i with
  | nil => simp at hi
  | cons p l ih =>
    cases i with
    | zero => simp [vals]
    | succ i =>
      have := ih i (by simpa using hi)
      simp only [vals, List.flatMap_cons, List.cons_append, List.nil_append] at this ⊢
      rw [show 2 * (i + 1) = 2 * i + 1 + 1 by omega]
      simpa using this
/-- a slice value that owns the spots l: a row of cells that begins with them -/
structure Owns (w : World) (base : Nat) (v : Value) (l : List Sp8) : Prop where
  own : w.ownsRow base 61 2 v l.length (vals l)
theorem Owns.row {w : World} {base : Nat} {v : Value} {l : List Sp8} (h : Owns w base v l) (hl : 0 < l.length) : ∃ g cap f, v = .slice (some ⟨g, 0, none⟩) l.length cap ∧ base ≤ g ∧ l.length ≤ cap ∧ w.heap[g]? = some (.cells (vrow (cap * 2) f) 61) ∧
    ∀ (i : Nat) (hi : i < l.length), f (i * 2) = .int .i8 (l[i]'hi).1.1 ∧ f (i * 2 + 1) = .int .i8 (l[i]'hi).1.2 := by
  rcases h.own.2 with ⟨_, h0⟩ | ⟨g, cap, cur, hv, hb, hg, hcap, _, hsz, ht⟩
  · omega
  · refine ⟨g, cap, fun i => cur.getD i undef, hv, hb, hcap, ?_, ?_⟩
    · rw [hg]
      congr 2
      apply Array.ext_getElem?
      intro i
      by_cases hi : i < cap * 2
      · rw [vrow_get _ _ _ hi, Array.getD_eq_getD_getElem?, Array.getElem?_eq_getElem (by omega)]; rfl
      · rw [vrow_none _ _ _ hi, Array.getElem?_eq_none (by omega)]
    · intro i hi
      have key : ∀ j, j < l.length * 2 → ∀ u, (vals l)[j]? = some u → cur.getD j undef = u := by
        intro j hj u hu
        rw [← ht, List.getElem?_take, if_pos hj] at hu
        rw [Array.getD_eq_getD_getElem?]
        simp only [Array.getElem?_toList] at hu
        rw [hu]; rfl
      obtain ⟨h1, h2⟩ := vals_get l i hi
      exact ⟨key _ (by omega) _ (by rw [Nat.mul_comm]; exact h1), key _ (by omega) _ (by rw [Nat.mul_comm]; exact h2)⟩
end Go.Proofs.YthienbbecbakjaaDoor
