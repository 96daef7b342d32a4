import Derived.Deep.RegionHeld3
import Derived.Test.YtlgeemlbilngaaaDoorPathE
namespace Go.Proofs.YtlgeemlbilngaaaDoor
open Go.RowKit
set_option maxRecDepth 100000
set_option linter.unusedVariables false
set_option linter.unusedSimpArgs false
/-- the first c cells of a row of spots are marked, from k -/
def mkC (f : Nat → Value) (k : Int) (c i : Nat) : Value := if i < c then .int .i8 (IntKind.i8.wrap (k + i)) else f i
theorem mkC_0 (f : Nat → Value) (k : Int) (N : Nat) : vrow N (mkC f k 0) = vrow N f := vrow_ext _ _ _ fun i _ => by unfold mkC; rw [if_neg (by omega)]
theorem mkC_step (f : Nat → Value) (k z : Int) (N c : Nat) (hz : z = k + c) : vrow N (over (mkC f k c) c 1 fun _ => .int .i8 (IntKind.i8.wrap z)) = vrow N (mkC f k (c + 1)) := vrow_ext _ _ _ fun i _ => by
  unfold over mkC
  by_cases h : i = c
  · rw [if_pos (by omega), if_pos (by omega), h, hz]
  · rw [if_neg (by omega)]
    by_cases h2 : i < c
    · rw [if_pos h2, if_pos (by omega)]
    · rw [if_neg h2, if_neg (by omega)]
theorem mkC_at (f : Nat → Value) (k : Int) (c i : Nat) (h : i < c) : mkC f k c i = .int .i8 (IntKind.i8.wrap (k + i)) := by unfold mkC; rw [if_pos h]
theorem setRow_selfK {w : World} {g : Nat} {cs : Array Value} {t : TypeId} (h : w.heap[g]? = some (.cells cs t)) : w.setRow g cs = w := by
  have h' := h
  cases w with
  | mk heap os tape drawn output =>
    simp only [World.setRow] at h ⊢
    congr 1
    apply Array.ext_getElem?
    intro i
    rw [Array.getElem?_modify]
    by_cases hi : g = i
    · subst hi
      rw [if_pos rfl, h]
      rfl
    · rw [if_neg hi]
theorem setRow_twiceK (w : World) (g : Nat) (c1 c2 : Array Value) : (w.setRow g c1).setRow g c2 = w.setRow g c2 := by
  cases w with
  | mk heap os tape drawn output =>
    simp only [World.setRow]
    congr 1
    apply Array.ext_getElem?
    intro i
    rw [Array.getElem?_modify, Array.getElem?_modify, Array.getElem?_modify]
    by_cases hi : g = i
    · rw [if_pos hi, if_pos hi, if_pos hi]
      cases heap[i]? with
      | none => rfl
      | some o => cases o <;> rfl
    · rw [if_neg hi, if_neg hi, if_neg hi]
end Go.Proofs.YtlgeemlbilngaaaDoor
