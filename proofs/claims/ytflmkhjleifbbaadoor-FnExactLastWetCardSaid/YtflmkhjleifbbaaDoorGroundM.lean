import Derived.OwnWalkIn
import Derived.Test.YtflmkhjleifbbaaDoorG1
import Derived.Test.YtflmkhjleifbbaaDoorRunM
import Derived.Test.YtflmkhjleifbbaaDoorNbr
import Derived.Test.YtflmkhjleifbbaaDoorCellsN
import Derived.Test.YtflmkhjleifbbaaDoorBr
import Derived.Test.YtflmkhjleifbbaaDoorBest
namespace Go.Proofs.YtflmkhjleifbbaaDoor
open Go.RowKit
set_option maxRecDepth 100000
set_option linter.unusedVariables false
set_option linter.unusedSimpArgs false
open Go.RowKit
theorem info_place : (Tryd.prog.info? 88).map (fun i => (i.zero, i.size, i.bytes)) = some (some (.agg #[.int .i8 0, .int .i8 0, .slice none 0 0]), 3, 32) := by kernel_rfl
/-- the neighbours of all cells of a list, one list behind the other -/
def nbAll (s : Sh) (l : List Sp8) : List Sp8 := l.flatMap fun p => nbs s p.1.1 p.1.2 4
theorem nbAll_app (s : Sh) (l : List Sp8) (p : Sp8) : nbAll s (l ++ [p]) = nbAll s l ++ nbs s p.1.1 p.1.2 4 := by simp [nbAll]
theorem nbAll_len (s : Sh) : ∀ l : List Sp8, (nbAll s l).length ≤ 4 * l.length
  | [] => by simp [nbAll]
  | p :: l => by
    have := nbAll_len s l
    have h2 := nbs_len s p.1.1 p.1.2 4
    simp only [nbAll, List.flatMap_cons, List.length_append, List.length_cons] at this ⊢
    omega
/-- a part of the list of neighbours -/
def besV (gl m n : Nat) : Value := .slice (if n = m then some ⟨gl, 0, none⟩ else some ⟨gl, m * 2, none⟩) (n - m) (n - m)
/-- the cells of the places -/
def pvals (s : Sh) (gl : Nat) : Nat → List Sp8 → List Value
  | _, [] => []
  | m, p :: l => [.int .i8 p.1.1, .int .i8 p.1.2, besV gl m (m + (nbs s p.1.1 p.1.2 4).length)] ++ pvals s gl (m + (nbs s p.1.1 p.1.2 4).length) l
theorem pvals_app (s : Sh) (gl : Nat) (p : Sp8) : ∀ (l : List Sp8) (m : Nat), pvals s gl m (l ++ [p]) = pvals s gl m l ++ [.int .i8 p.1.1, .int .i8 p.1.2, besV gl (m + (nbAll s l).length) (m + (nbAll s l).length + (nbs s p.1.1 p.1.2 4).length)]
  | [], m => by simp [pvals, nbAll]
  | q :: l, m => by
    show [_, _, _] ++ pvals s gl _ (l ++ [p]) = _
    rw [pvals_app s gl p l]
    have : m + (nbs s q.1.1 q.1.2 4).length + (nbAll s l).length = m + (nbAll s (q :: l)).length := by simp [nbAll]; omega
    rw [this]
    rfl
theorem pvals_len (s : Sh) (gl : Nat) : ∀ (l : List Sp8) (m : Nat), (pvals s gl m l).length = l.length * 3
  | [], _ => rfl
  | p :: l, m => by
    show (_ :: _ :: _ :: pvals s gl _ l).length = _
    simp only [List.length_cons, pvals_len s gl l]; omega
/-- the ground of the cells l: the list of all neighbours in the block gl, the places in the block gp -/
structure GroundM (W : World) (base gp gl : Nat) (s : Sh) (l : List Sp8) : Prop where
  list : W.ownsRow base 42 2 (.slice (some ⟨gl, 0, none⟩) (nbAll s l).length 256) (nbAll s l).length (vals (nbAll s l))
  places : W.ownsRow base 88 3 (.slice (some ⟨gp, 0, none⟩) l.length 64) l.length (pvals s gl 0 l)
/-- the cells that are not waxed, of some -/
def dryL (s : Sh) (l : List Sp8) : List Sp8 := l.filter fun p => !waxB s p.1.1 p.1.2
theorem dryL_app (s : Sh) (l : List Sp8) (p : Sp8) : dryL s (l ++ [p]) = dryL s l ++ (if waxB s p.1.1 p.1.2 then [] else [p]) := by
  unfold dryL
  rw [List.filter_append]
  cases h : waxB s p.1.1 p.1.2 <;> simp [h]
theorem dryL_len (s : Sh) (l : List Sp8) : (dryL s l).length ≤ l.length := List.length_filter_le _ _
theorem own_ownsRow {β : Type} {B base size : Nat} {t : TypeId} (v : β → Value) (n : β → Nat) (xs : β → List Value) : OwnFrom B (fun (s : β) W => W.ownsRow base t size (v s) (n s) (xs s)) := fun s W W' row hs hg hr => by
  refine hs.kept hg ?_
  rcases hs.2 with ⟨hv, _⟩ | ⟨g, cap, cur, hv, _, hgb, _⟩
  · exact .inl (by rw [hv]; rfl)
  · refine .inr fun e => ?_
    rw [hv] at e
    obtain ⟨_, o, ho, hc⟩ := hr g e.symm
    rw [hgb] at ho
    cases ho
    simp [Obj.isCells] at hc
def toSp {a c : Nat} (p : SpN a c) : Sp8 := mk8 p.1.1 p.1.2
theorem toSp_val {a c : Nat} (ha : a ≤ 8) (hc : c ≤ 8) (p : SpN a c) : (toSp p).1 = p.1 := mk8_x (by have := p.2.1; omega) (by have := p.2.2; omega)
theorem toSp_cells (a c : Nat) (ha : a ≤ 8) : ∀ k h, k ≤ 8 → (cellsN a c k h).map toSp = cellsL a k := fun k h hk => by
  have e1 : ((cellsN a c k h).map toSp) = ((cellsN a c k h).map (·.1)).map fun q => mk8 q.1 q.2 := by rw [List.map_map]; rfl
  have e2 : cellsL a k = ((cellsL a k).map (·.1)).map fun q => mk8 q.1 q.2 := by
    rw [List.map_map]
    conv => lhs; rw [← List.map_id (cellsL a k)]
    exact List.map_congr_left fun p _ => Subtype.ext (mk8_x p.2.1 p.2.2).symm
  rw [e1, cellsN_val, e2, cellsL_val a k ha k hk]
end Go.Proofs.YtflmkhjleifbbaaDoor
