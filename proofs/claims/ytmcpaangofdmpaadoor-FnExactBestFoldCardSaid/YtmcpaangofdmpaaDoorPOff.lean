import Derived.Test.YtmcpaangofdmpaaDoorLPairs
import Derived.Test.YtmcpaangofdmpaaDoorGap2
import Derived.Test.YtmcpaangofdmpaaDoorSlPs
namespace Go.Proofs.YtmcpaangofdmpaaDoor
open Go.RowKit
set_option maxRecDepth 100000
set_option linter.unusedVariables false
set_option linter.unusedSimpArgs false
/-- the dyes of a cell -/
def dyA (s : Sh) (x y : Nat) : Nat → Int := fun m => s.dye (24 * y + 3 * x + m)
def gapP (s : Sh) (ax : Int) (d : Bool) (p : Sp8) : Nat → Int := gp (dyA s p.1.1 p.1.2) (dyA s (sgP ax d p).1.1 (sgP ax d p).1.2)
def gq (s : Sh) (ax : Int) (d : Bool) (L : List Sp8) (k : Nat) : Nat → Int := if h : k < L.length then gapP s ax d (L[k]'h) else fun _ => 0
def oS (G : Nat → Nat → Int) : Nat → Int
  | 0 => 0
  | k + 1 => oS G k + dsum (G k) 3
def mk3 (m : Int) (g : Nat → Int) : Nat → Int
  | 0 => m
  | j + 1 => max (mk3 m g j) (g j)
def oM (G : Nat → Nat → Int) : Nat → Int
  | 0 => 0
  | k + 1 => mk3 (oM G k) (G k) 3
theorem dyA_bd {s : Sh} (hv : okI s = true) {x y : Nat} (hx : x < 8) (hy : y < 8) (m : Nat) (hm : m < 3) : 0 ≤ dyA s x y m ∧ dyA s x y m ≤ 1000 := by
  have h := ok_bounds s hv x y hx hy
  unfold dyA
  have : m = 0 ∨ m = 1 ∨ m = 2 := by omega
  rcases this with rfl | rfl | rfl
  · exact h.2.1
  · exact h.2.2.1
  · exact h.2.2.2
theorem gp_bd {p q : Nat → Int} {m : Nat} (hp : 0 ≤ p m ∧ p m ≤ 1000) (hq : 0 ≤ q m ∧ q m ≤ 1000) : 0 ≤ gp p q m ∧ gp p q m ≤ 1000 := by unfold gp; split <;> omega
theorem gapP_bd {s : Sh} (hv : okI s = true) (ax : Int) (d : Bool) (p : Sp8) (m : Nat) (hm : m < 3) : 0 ≤ gapP s ax d p m ∧ gapP s ax d p m ≤ 1000 :=
  gp_bd (dyA_bd hv p.2.1 p.2.2 m hm) (dyA_bd hv (sgP ax d p).2.1 (sgP ax d p).2.2 m hm)
theorem gq_bd {s : Sh} (hv : okI s = true) (ax : Int) (d : Bool) (L : List Sp8) (k m : Nat) (hm : m < 3) : 0 ≤ gq s ax d L k m ∧ gq s ax d L k m ≤ 1000 := by
  unfold gq
  split
  · exact gapP_bd hv ax d _ m hm
  · simp
theorem oS_bd {G : Nat → Nat → Int} (h : ∀ k m, m < 3 → 0 ≤ G k m ∧ G k m ≤ 1000) : ∀ k, 0 ≤ oS G k ∧ oS G k ≤ 3000 * k
  | 0 => by simp [oS]
  | k + 1 => by
    have h1 := oS_bd h k
    have h2 := dsum_bd (G k) (h k) 3 (by omega)
    simp only [oS]; omega
theorem mk3_bd {m : Int} {g : Nat → Int} (hm : 0 ≤ m ∧ m ≤ 1000) (hg : ∀ j, j < 3 → 0 ≤ g j ∧ g j ≤ 1000) : ∀ j, j ≤ 3 → 0 ≤ mk3 m g j ∧ mk3 m g j ≤ 1000
  | 0, _ => hm
  | j + 1, h => by
    have h1 := mk3_bd hm hg j (by omega)
    have h2 := hg j (by omega)
    simp only [mk3]; omega
theorem oM_bd {G : Nat → Nat → Int} (h : ∀ k m, m < 3 → 0 ≤ G k m ∧ G k m ≤ 1000) : ∀ k, 0 ≤ oM G k ∧ oM G k ≤ 1000
  | 0 => by simp [oM]
  | k + 1 => mk3_bd (oM_bd h k) (h k) 3 (by omega)
theorem vals4_get (ax : Int) (d : Bool) (l : List Sp8) (i : Nat) (hi : i < l.length) : (vals4 ax d l)[4 * i]? = some (.int .i8 (l[i]'hi).1.1) ∧ (vals4 ax d l)[4 * i + 1]? = some (.int .i8 (l[i]'hi).1.2) ∧ (vals4 ax d l)[4 * i + 2]? = some (.int .i8 (prX ax d (l[i]'hi).1.1)) ∧ (vals4 ax d l)[4 * i + 3]? = some (.int .i8 (prY ax d (l[i]'hi).1.2)) := by
  induction l generalizing i with
  | nil => simp at hi
  | cons p l ih =>
    have e : vals4 ax d (p :: l) = [.int .i8 p.1.1, .int .i8 p.1.2, .int .i8 (prX ax d p.1.1), .int .i8 (prY ax d p.1.2)] ++ vals4 ax d l := by simp [vals4]
    rw [e]
    rcases i with _ | i
    · simp
    · have := ih i (by simpa using hi)
      rw [List.getElem?_append_right (by simp; omega), List.getElem?_append_right (by simp; omega), List.getElem?_append_right (by simp; omega), List.getElem?_append_right (by simp; omega)]
      simp only [List.length_cons, List.length_nil, List.getElem_cons_succ]
      rw [show 4 * (i + 1) - (0 + 1 + 1 + 1 + 1) = 4 * i by omega, show 4 * (i + 1) + 1 - (0 + 1 + 1 + 1 + 1) = 4 * i + 1 by omega, show 4 * (i + 1) + 2 - (0 + 1 + 1 + 1 + 1) = 4 * i + 2 by omega, show 4 * (i + 1) + 3 - (0 + 1 + 1 + 1 + 1) = 4 * i + 3 by omega]
      exact this
/-- pairs lie in a slice -/
def PRO (w : World) (v : Value) (ax : Int) (d : Bool) (L : List Sp8) (B : Nat) : Prop := ∃ ao c, v = .slice ao L.length c ∧ (L.length = 0 ∨ ∃ g N f, ao = some ⟨g, 0, none⟩ ∧ B ≤ g ∧ L.length * 4 ≤ N ∧ w.heap[g]? = some (.cells (vrow N f) 130) ∧ ∀ k (h : k < L.length), vrow 4 (fun j => f (k * 4 + j)) = vrow 4 (p4 (L[k]'h).1.1 (L[k]'h).1.2 (prX ax d (L[k]'h).1.1) (prY ax d (L[k]'h).1.2)))
theorem own_pro {W : World} {base : Nat} {v : Value} {ax : Int} {d : Bool} {l : List Sp8} (h : W.ownsRow base 130 4 v l.length (vals4 ax d l)) : PRO W v ax d l base := by
  rcases h.2 with ⟨rfl, h0⟩ | ⟨g, cap, cur, rfl, hg, _, _, _, _, _⟩
  · refine ⟨none, 0, ?_, .inl h0⟩
    rw [h0]
  · obtain ⟨f, h1, h2, h3⟩ := own_row_ofB h
    refine ⟨_, _, rfl, .inr ⟨g, cap * 4, f, rfl, hg, by omega, h1, fun k hk => ?_⟩⟩
    obtain ⟨g0, g1, g2, g3⟩ := vals4_get ax d l k hk
    have e0 := h3 (4 * k) _ (by omega) g0
    have e1 := h3 (4 * k + 1) _ (by omega) g1
    have e2 := h3 (4 * k + 2) _ (by omega) g2
    have e3 := h3 (4 * k + 3) _ (by omega) g3
    refine vrow_ext _ _ _ fun i hi => ?_
    have : i = 0 ∨ i = 1 ∨ i = 2 ∨ i = 3 := by omega
    rcases this with rfl | rfl | rfl | rfl
    · rw [show k * 4 + 0 = 4 * k by omega, e0]; rfl
    · rw [show k * 4 + 1 = 4 * k + 1 by omega, e1]; rfl
    · rw [show k * 4 + 2 = 4 * k + 2 by omega, e2]; rfl
    · rw [show k * 4 + 3 = 4 * k + 3 by omega, e3]; rfl
theorem p4_lo {f : Nat → Value} {k : Nat} {x y u v : Int} (h : vrow 4 (fun j => f (k * 4 + j)) = vrow 4 (p4 x y u v)) : f (k * 4) = .int .i8 x ∧ f (k * 4 + 1) = .int .i8 y ∧ f (k * 4 + 2) = .int .i8 u ∧ f (k * 4 + 3) = .int .i8 v := by
  have g := fun (i : Nat) => congrArg (fun q : Array Value => q[i]?) h
  have g0 := g 0; have g1 := g 1; have g2 := g 2; have g3 := g 3
  simp [vrow, p4] at g0 g1 g2 g3
  exact ⟨g0, g1, g2, g3⟩
/-- pairs of cells: both are cells -/
def inP (ax : Int) (d : Bool) (L : List Sp8) : Prop := ∀ p ∈ L, (((sgP ax d p).1.1 : Nat) : Int) = prX ax d p.1.1 ∧ (((sgP ax d p).1.2 : Nat) : Int) = prY ax d p.1.2
theorem prsL_in (s : Sh) {a c : Nat} {ax : Int} {d : Bool} (ha : a ≤ 8) (hc : c ≤ 8) : inP ax d (prsL s a c ax d) := fun p hp => by
  have h := (List.mem_filter.1 hp).2
  simp only [Bool.and_eq_true] at h
  have h2 := h.1
  unfold goodP at h2
  simp only [Bool.and_eq_true] at h2
  exact sgP_val ha hc h2.1.1
theorem prsL_len (s : Sh) {a c : Nat} {ax : Int} {d : Bool} (ha : a ≤ 8) (hc : c ≤ 8) : (prsL s a c ax d).length ≤ 64 := by
  have h1 : (cellsL a c).length = a * c := cellsL_length a c
  have h2 := List.length_filter_le (fun p => goodP s a c ax d p && firstP ax d p) (cellsL a c)
  have h3 : a * c ≤ 64 := Nat.mul_le_mul ha hc
  unfold prsL; omega
end Go.Proofs.YtmcpaangofdmpaaDoor
