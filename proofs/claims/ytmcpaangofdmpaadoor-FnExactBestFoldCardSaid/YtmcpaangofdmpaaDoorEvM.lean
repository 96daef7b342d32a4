import Derived.Test.YtmcpaangofdmpaaDoorPOff
namespace Go.Proofs.YtmcpaangofdmpaaDoor
open Go.RowKit
set_option maxRecDepth 100000
set_option linter.unusedVariables false
set_option linter.unusedSimpArgs false
/-- a sheet with another dye at a place -/
def Sh.ed (s : Sh) (j : Nat) (v : Int) : Sh := ⟨s.wide, s.high, s.wet, fun i => if i = j then v else s.dye i, s.wax⟩
theorem Sh.ed_at (s : Sh) (o j : Nat) (ho : o = 66 + j) (hj : j < 192) (v : Int) : vrow 266 (over s.at o 1 fun _ => .int .i16 v) = vrow 266 (s.ed j v).at := vrow_ext _ _ _ fun i hi => by
  subst ho
  unfold over Sh.at Sh.ed
  dsimp only
  by_cases h : i = 66 + j
  · subst h
    rw [if_pos (by omega), if_neg (by omega), if_neg (by omega), if_neg (by omega), if_pos (by omega), if_pos (by omega)]
  · rw [if_neg (by omega)]
    by_cases h0 : i = 0
    · rw [if_pos h0, if_pos h0]
    · rw [if_neg h0, if_neg h0]
      by_cases h1 : i = 1
      · rw [if_pos h1, if_pos h1]
      · rw [if_neg h1, if_neg h1]
        by_cases h2 : i < 66
        · rw [if_pos h2, if_pos h2]
        · rw [if_neg h2, if_neg h2]
          by_cases h3 : i < 258
          · rw [if_pos h3, if_pos h3, if_neg (by omega)]
          · rw [if_neg h3, if_neg h3]
theorem Sh.ed_self (s : Sh) (j : Nat) (v : Int) : (s.ed j v).dye j = v := by unfold Sh.ed; simp
theorem Sh.ed_ne (s : Sh) (i j : Nat) (v : Int) (h : i ≠ j) : (s.ed j v).dye i = s.dye i := by unfold Sh.ed; simp [h]
/-- one ink of a pair is evened out -/
def evI (s : Sh) (p q m : Nat) : Sh := (s.ed (q + m) ((s.dye (p + m) + s.dye (q + m)).tdiv 2)).ed (p + m) (s.dye (p + m) + s.dye (q + m) - (s.dye (p + m) + s.dye (q + m)).tdiv 2)
def evC (s : Sh) (p q : Nat) : Nat → Sh
  | 0 => s
  | m + 1 => evI (evC s p q m) p q m
/-- where the dyes of a cell lie -/
def cb (p : Sp8) : Nat := 24 * p.1.2 + 3 * p.1.1
def evL (s : Sh) (ax : Int) (d : Bool) (L : List Sp8) : Sh := L.foldl (fun t p => evC t (cb p) (cb (sgP ax d p)) 3) s
theorem evL_app (s : Sh) (ax : Int) (d : Bool) (L : List Sp8) (p : Sp8) : evL s ax d (L ++ [p]) = evC (evL s ax d L) (cb p) (cb (sgP ax d p)) 3 := by unfold evL; rw [List.foldl_append]; rfl
def bdS (s : Sh) : Prop := ∀ j, j < 192 → 0 ≤ s.dye j ∧ s.dye j ≤ 1000
theorem ed_bd {s : Sh} (h : bdS s) (j : Nat) {v : Int} (hv : 0 ≤ v ∧ v ≤ 1000) : bdS (s.ed j v) := fun i hi => by
  unfold Sh.ed
  simp only
  split
  · exact hv
  · exact h i hi
theorem tdiv2 {t : Int} (h : 0 ≤ t ∧ t ≤ 2000) : 0 ≤ t.tdiv 2 ∧ t.tdiv 2 ≤ 1000 ∧ 0 ≤ t - t.tdiv 2 ∧ t - t.tdiv 2 ≤ 1000 := by
  rw [Int.tdiv_eq_ediv_of_nonneg h.1]; omega
theorem evI_bd {s : Sh} (h : bdS s) {p q m : Nat} (hp : p + m < 192) (hq : q + m < 192) : bdS (evI s p q m) := by
  have h1 := h _ hp; have h2 := h _ hq
  have ht := tdiv2 (t := s.dye (p + m) + s.dye (q + m)) (by omega)
  exact ed_bd (ed_bd h _ ⟨ht.1, ht.2.1⟩) _ ⟨ht.2.2.1, ht.2.2.2⟩
theorem evC_bd {s : Sh} (h : bdS s) {p q : Nat} : ∀ m, p + m ≤ 192 → q + m ≤ 192 → bdS (evC s p q m)
  | 0, _, _ => h
  | m + 1, hp, hq => evI_bd (evC_bd h m (by omega) (by omega)) (by omega) (by omega)
theorem cb_lt (p : Sp8) : cb p + 3 ≤ 192 := by have := p.2.1; have := p.2.2; unfold cb; omega
theorem evL_bd {s : Sh} (h : bdS s) (ax : Int) (d : Bool) : ∀ n (L : List Sp8), L.length = n → bdS (evL s ax d L) := by
  intro n
  induction n with
  | zero => intro L hl; obtain rfl := List.length_eq_zero_iff.1 hl; exact h
  | succ n ih =>
    intro L hl
    obtain ⟨qs, q, rfl⟩ : ∃ qs q, L = qs ++ [q] := ⟨L.dropLast, L.getLast (by intro e; simp [e] at hl), (List.dropLast_concat_getLast _).symm⟩
    rw [evL_app]
    exact evC_bd (ih qs (by simpa using hl)) 3 (cb_lt _) (cb_lt _)
end Go.Proofs.YtmcpaangofdmpaaDoor
