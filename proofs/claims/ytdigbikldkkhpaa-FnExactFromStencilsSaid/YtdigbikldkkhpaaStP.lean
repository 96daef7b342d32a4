import Derived.Test.YtdigbikldkkhpaaBlank
import Derived.Test.YtdigbikldkkhpaaCellsN
namespace Go.Proofs.Ytdigbikldkkhpaa
open Go.RowKit
set_option maxRecDepth 100000
set_option linter.unusedVariables false
set_option linter.unusedSimpArgs false
def Pic.setK (p : Pic) (k : Nat) (v : Int) : Pic := ⟨p.wide, p.high, fun i => if i = k then v else p.ink i⟩
/-- the cell q is cut out of the stencil k -/
def cutB (st : Nat → Int) (k : Nat) (q : Nat × Nat) : Bool := bits BinOp.and IntKind.u8 (st (8 * k + q.2) / 2 ^ q.1) 1 == 1
def dabK (st : Nat → Int) (k : Nat) (p : Pic) (l : List (Nat × Nat)) : Pic := l.foldl (fun p q => if cutB st k q then p.setK (8 * q.2 + q.1) ((k : Int) + 1) else p) p
def dabA (st : Nat → Int) (p : Pic) (L : List (Nat × Nat)) : Nat → Pic
  | 0 => p
  | k + 1 => dabK st k (dabA st p L k) L
theorem dabK_app (st : Nat → Int) (k : Nat) (p : Pic) (l : List (Nat × Nat)) (q : Nat × Nat) : dabK st k p (l ++ [q]) = if cutB st k q then (dabK st k p l).setK (8 * q.2 + q.1) ((k : Int) + 1) else dabK st k p l := by
  simp [dabK, List.foldl_append]
theorem dabK_wh (st : Nat → Int) (k : Nat) : ∀ (l : List (Nat × Nat)) (p : Pic), (dabK st k p l).wide = p.wide ∧ (dabK st k p l).high = p.high
  | [], p => ⟨rfl, rfl⟩
  | q :: l, p => by
    have h := dabK_wh st k l (if cutB st k q then p.setK (8 * q.2 + q.1) ((k : Int) + 1) else p)
    refine ⟨h.1.trans ?_, h.2.trans ?_⟩ <;> (split <;> rfl)
theorem dabK_ink (st : Nat → Int) (k : Nat) : ∀ (l : List (Nat × Nat)) (p : Pic) (i : Nat), (dabK st k p l).ink i = if l.any (fun q => cutB st k q && (i == 8 * q.2 + q.1)) then (k : Int) + 1 else p.ink i
  | [], p, i => rfl
  | q :: l, p, i => by
    show (dabK st k (if cutB st k q then p.setK (8 * q.2 + q.1) ((k : Int) + 1) else p) l).ink i = _
    rw [dabK_ink st k l, List.any_cons]
    cases hl : l.any (fun q => cutB st k q && (i == 8 * q.2 + q.1))
    · cases hc : cutB st k q
      · simp
      · by_cases hi : i = 8 * q.2 + q.1
        · simp [Pic.setK, hi]
        · have : (i == 8 * q.2 + q.1) = false := by simpa using hi
          simp [Pic.setK, hi]
    · simp
theorem mem_pairs {a c : Nat} {q : Nat × Nat} (h1 : q.1 < a) (h2 : q.2 < c) : q ∈ pairsL a c := by
  unfold pairsL
  exact List.mem_flatMap.2 ⟨q.2, List.mem_range.2 h2, List.mem_map.2 ⟨q.1, List.mem_range.2 h1, rfl⟩⟩
/-- no cell beyond the sizes is cut out -/
def inCut (st : Nat → Int) (a c k : Nat) : Prop := ∀ q : Nat × Nat, q.1 < 8 → q.2 < 8 → cutB st k q = true → q.1 < a ∧ q.2 < c
theorem dabK_eq {st : Nat → Int} {a c k : Nat} (h : inCut st a c k) (ha : a ≤ 8) (hc : c ≤ 8) (p : Pic) : dabK st k p (pairsL 8 8) = dabK st k p (pairsL a c) := by
  have h1 := dabK_wh st k (pairsL 8 8) p
  have h2 := dabK_wh st k (pairsL a c) p
  have h3 : (dabK st k p (pairsL 8 8)).ink = (dabK st k p (pairsL a c)).ink := funext fun i => by
    rw [dabK_ink, dabK_ink]
    have e : (pairsL 8 8).any (fun q => cutB st k q && (i == 8 * q.2 + q.1)) = (pairsL a c).any (fun q => cutB st k q && (i == 8 * q.2 + q.1)) := by
      rw [Bool.eq_iff_iff, List.any_eq_true, List.any_eq_true]
      constructor
      · rintro ⟨q, hq, hh⟩
        have hb := pairsL_mem hq
        rw [Bool.and_eq_true] at hh
        have hi := h q hb.1 hb.2 hh.1
        exact ⟨q, mem_pairs hi.1 hi.2, by rw [Bool.and_eq_true]; exact hh⟩
      · rintro ⟨q, hq, hh⟩
        have hb := pairsL_mem hq
        exact ⟨q, mem_pairs (by omega) (by omega), hh⟩
    rw [e]
  have hx : ∀ (x y : Pic), x.wide = y.wide → x.high = y.high → x.ink = y.ink → x = y := fun x y e1 e2 e3 => by
    cases x; cases y; simp only at e1 e2 e3; rw [e1, e2, e3]
  exact hx _ _ (h1.1.trans h2.1.symm) (h1.2.trans h2.2.symm) h3
theorem dabA_eq {st : Nat → Int} {a c : Nat} (ha : a ≤ 8) (hc : c ≤ 8) (p : Pic) : ∀ n, (∀ k, k < n → inCut st a c k) → dabA st p (pairsL 8 8) n = dabA st p (pairsL a c) n
  | 0, _ => rfl
  | n + 1, h => by
    show dabK st n (dabA st p (pairsL 8 8) n) (pairsL 8 8) = dabK st n (dabA st p (pairsL a c) n) (pairsL a c)
    rw [dabA_eq ha hc p n (fun k hk => h k (by omega)), dabK_eq (h n (by omega)) ha hc]
end Go.Proofs.Ytdigbikldkkhpaa
