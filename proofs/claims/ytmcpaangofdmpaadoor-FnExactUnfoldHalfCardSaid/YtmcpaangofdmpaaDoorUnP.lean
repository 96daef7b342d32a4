import Derived.Test.YtmcpaangofdmpaaDoorUnC
import Derived.Test.YtmcpaangofdmpaaDoorArr
namespace Go.Proofs.YtmcpaangofdmpaaDoor
open Go.RowKit
set_option maxRecDepth 100000
set_option linter.unusedVariables false
set_option linter.unusedSimpArgs false
def unMx (d : Bool) (a x : Nat) : Nat := if d then x else 2 * a - 1 - x
def unMy (d : Bool) (c y : Nat) : Nat := if d then 2 * c - 1 - y else y
def unS (s : Sh) (d : Bool) (a c : Nat) (T : Sh) (p : Nat × Nat) : Sh := copyS s (copyS s T p.1 p.2 p.1 p.2) (unMx d a p.1) (unMy d c p.2) p.1 p.2
def unA (d : Bool) (a : Nat) : Nat := if d then a else 2 * a
def unH (d : Bool) (c : Nat) : Nat := if d then 2 * c else c
def unG (d : Bool) (a c : Nat) (p : Nat × Nat) : List (Nat × Nat) := [p, (unMx d a p.1, unMy d c p.2)]
theorem bv_back : ∀ n : Nat, n < 256 → BitVec.ofInt 8 (IntKind.u8.wrap ((BitVec.ofNat 8 n).toNat : Int)) = BitVec.ofNat 8 n := by decide +kernel
theorem bv_back' (v : BitVec 8) : BitVec.ofInt 8 (IntKind.u8.wrap (v.toNat : Int)) = v := by
  have h := bv_back v.toNat v.isLt
  rw [BitVec.ofNat_toNat, BitVec.setWidth_eq] at h
  exact h
theorem onB_comm (r : Int) (x z : Nat) : onB (onB r x) z = onB (onB r z) x := by
  show IntKind.u8.wrap (((BitVec.ofInt 8 (IntKind.u8.wrap (((BitVec.ofInt 8 r) ||| (BitVec.ofInt 8 (2 ^ x % 256)) : BitVec 8).toNat : Int))) ||| (BitVec.ofInt 8 (2 ^ z % 256)) : BitVec 8).toNat : Int) = IntKind.u8.wrap (((BitVec.ofInt 8 (IntKind.u8.wrap (((BitVec.ofInt 8 r) ||| (BitVec.ofInt 8 (2 ^ z % 256)) : BitVec 8).toNat : Int))) ||| (BitVec.ofInt 8 (2 ^ x % 256)) : BitVec 8).toNat : Int)
  rw [bv_back', bv_back', BitVec.or_assoc, BitVec.or_assoc, BitVec.or_comm (BitVec.ofInt 8 (2 ^ x % 256))]
theorem copyS_comm (s T : Sh) {x y u v x' y' u' v' : Nat} (h : ¬ (x = x' ∧ y = y')) (hx : x < 8) (hx' : x' < 8) : copyS s (copyS s T x y u v) x' y' u' v' = copyS s (copyS s T x' y' u' v') x y u v := by
  unfold copyS Sh.setWet Sh.setDye3 Sh.setWax
  simp only [Sh.mk.injEq, true_and]
  refine ⟨funext fun i => ?_, funext fun i => ?_, funext fun i => ?_⟩
  · by_cases h1 : i = 8 * y' + x'
    · have h2 : ¬ i = 8 * y + x := by omega
      rw [if_pos h1, if_neg h2, if_pos h1]
    · rw [if_neg h1, if_neg h1]
  · by_cases h1 : 24 * y' + 3 * x' ≤ i ∧ i < 24 * y' + 3 * x' + 3
    · have h2 : ¬ (24 * y + 3 * x ≤ i ∧ i < 24 * y + 3 * x + 3) := by omega
      rw [if_pos h1, if_neg h2, if_pos h1]
    · rw [if_neg h1, if_neg h1]
  · by_cases hy : y = y'
    · subst hy
      by_cases h1 : i = y
      · simp only [if_pos h1, if_true]
        cases waxB s u v <;> cases waxB s u' v' <;> simp [onB_comm]
      · simp only [if_neg h1]
    · have hy' : ¬ y' = y := fun e => hy e.symm
      by_cases h1 : i = y'
      · have h2 : ¬ i = y := by omega
        simp only [if_pos h1, if_neg h2, if_neg hy']
      · simp only [if_neg h1, if_neg hy]
theorem un_perm0 : ∀ d : Bool, ∀ a : Nat, a < 9 → ∀ c : Nat, c < 9 → unA d a ≤ 8 → unH d c ≤ 8 → ((pairsL a c).flatMap (unG d a c)).isPerm (pairsL (unA d a) (unH d c)) = true := by decide +kernel
theorem un_flat (s : Sh) (d : Bool) (a c : Nat) : ∀ (l : List (Nat × Nat)), (∀ p ∈ l, p.1 < a ∧ p.2 < c) → ∀ T, l.foldl (unS s d a c) T = (l.flatMap (unG d a c)).foldl (fun T p => copyS s T p.1 p.2 (unX d a p.1) (unY d c p.2)) T
  | [], _, _ => rfl
  | p :: l, h, T => by
    obtain ⟨h1, h2⟩ := h p (by simp)
    rw [List.flatMap_cons, List.foldl_append, List.foldl_cons, un_flat s d a c l (fun q hq => h q (by simp [hq]))]
    have e1 : unX d a p.1 = p.1 := by unfold unX; cases d <;> simp [h1]
    have e2 : unY d c p.2 = p.2 := by unfold unY; cases d <;> simp [h2]
    have e3 : unX d a (unMx d a p.1) = p.1 := by
      cases d
      · show (if 2 * a - 1 - p.1 < a then 2 * a - 1 - p.1 else 2 * a - 1 - (2 * a - 1 - p.1)) = p.1
        rw [if_neg (by omega)]; omega
      · rfl
    have e4 : unY d c (unMy d c p.2) = p.2 := by
      cases d
      · rfl
      · show (if 2 * c - 1 - p.2 < c then 2 * c - 1 - p.2 else 2 * c - 1 - (2 * c - 1 - p.2)) = p.2
        rw [if_neg (by omega)]; omega
    have e : unS s d a c T p = (unG d a c p).foldl (fun T p => copyS s T p.1 p.2 (unX d a p.1) (unY d c p.2)) T := by
      show _ = copyS s (copyS s T p.1 p.2 (unX d a p.1) (unY d c p.2)) (unMx d a p.1) (unMy d c p.2) (unX d a (unMx d a p.1)) (unY d c (unMy d c p.2))
      rw [e1, e2, e3, e4]; rfl
    rw [e]
theorem un_eq (s : Sh) (d : Bool) (a c : Nat) (T : Sh) (hT : ∀ y, T.wax y = 0) (ha : 1 ≤ a ∧ a ≤ 8) (hc : 1 ≤ c ∧ c ≤ 8) (hA : unA d a ≤ 8) (hC : unH d c ≤ 8) : arrI s (fun x y => unX d a x) (fun x y => unY d c y) T (pairsL (unA d a) (unH d c)) = (pairsL a c).foldl (unS s d a c) T := by
  rw [arr_eq' s _ _ _ _ hA hC T hT, un_flat s d a c _ (fun p hp => pairsL_mem hp)]
  have hp := List.isPerm_iff.1 (un_perm0 d a (by omega) c (by omega) hA hC)
  unfold arrS
  refine (List.Perm.foldl_eq' hp (fun x hx y hy z => ?_) T).symm
  have bx := pairsL_mem (hp.mem_iff.1 hx)
  have bY := pairsL_mem (hp.mem_iff.1 hy)
  by_cases e : x = y
  · subst e; rfl
  · exact copyS_comm s z (fun h => e (Prod.ext h.1 h.2)) (by omega) (by omega)
end Go.Proofs.YtmcpaangofdmpaaDoor
