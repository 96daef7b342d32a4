import Derived.Test.YtmcpaangofdmpaaDoorChos
import Derived.Test.YtmcpaangofdmpaaDoorPartC
namespace Go.Proofs.YtmcpaangofdmpaaDoor
open Go.RowKit
set_option maxRecDepth 100000
set_option linter.unusedVariables false
set_option linter.unusedSimpArgs false
/-- one cell comes before another -/
def lt8 (p q : Sp8) : Prop := p.1.2 < q.1.2 ∨ (p.1.2 = q.1.2 ∧ p.1.1 < q.1.1)
theorem lt8_irr (p : Sp8) : ¬ lt8 p p := by unfold lt8; omega
theorem lt8_asym {p q : Sp8} (h : lt8 p q) : ¬ lt8 q p := by unfold lt8 at *; omega
theorem cellsL_mem {a c : Nat} (ha : a ≤ 8) (hc : c ≤ 8) (p : Sp8) : p ∈ cellsL a c ↔ p.1.1 < a ∧ p.1.2 < c := by
  constructor
  · intro h
    have h2 : p.1 ∈ (cellsL a c).map (·.1) := List.mem_map.2 ⟨p, h, rfl⟩
    rw [cellsL_val a c ha c hc] at h2
    exact pairsL_mem h2
  · intro ⟨h1, h2⟩
    have h3 : p.1 ∈ (cellsL a c).map (·.1) := by
      rw [cellsL_val a c ha c hc]
      simp only [pairsL, List.mem_flatMap, List.mem_range, List.mem_map]
      exact ⟨p.1.2, h2, p.1.1, h1, rfl⟩
    obtain ⟨q, hq, e⟩ := List.mem_map.1 h3
    rwa [Subtype.ext e] at hq
theorem pairsL_lt (a : Nat) : ∀ c, (pairsL a c).Pairwise (fun p q => p.2 < q.2 ∨ (p.2 = q.2 ∧ p.1 < q.1))
  | 0 => by simp [pairsL]
  | c + 1 => by
    rw [pairsL_succ]
    refine List.pairwise_append.2 ⟨pairsL_lt a c, ?_, ?_⟩
    · refine List.pairwise_map.2 ?_
      exact List.pairwise_lt_range.imp (fun h => Or.inr ⟨rfl, h⟩)
    · intro p hp q hq
      have := (pairsL_mem hp).2
      simp only [List.mem_map, List.mem_range] at hq
      obtain ⟨x, _, rfl⟩ := hq
      exact Or.inl this
theorem cellsL_lt {a c : Nat} (ha : a ≤ 8) (hc : c ≤ 8) : (cellsL a c).Pairwise lt8 := by
  have h := pairsL_lt a c
  rw [← cellsL_val a c ha c hc] at h
  have h2 := List.pairwise_map.1 h
  exact h2
/-- a step of the program: a cell that is good and whose partner has not been met is put behind -/
def stp (good : Sp8 → Bool) (sg : Sp8 → Sp8) (l : List Sp8) (p : Sp8) : List Sp8 := if good p && !(l.contains (sg p)) then l ++ [p] else l
def stL (good : Sp8 → Bool) (sg : Sp8 → Sp8) (l : List Sp8) : List Sp8 := l.foldl (stp good sg) []
theorem stL_app (good : Sp8 → Bool) (sg : Sp8 → Sp8) (l : List Sp8) (p : Sp8) : stL good sg (l ++ [p]) = stp good sg (stL good sg l) p := by unfold stL; rw [List.foldl_append]; rfl
theorem stL_eq (C : List Sp8) (hC : C.Pairwise lt8) (good first : Sp8 → Bool) (sg : Sp8 → Sp8)
    (h1 : ∀ p ∈ C, good p = true → sg p ∈ C ∧ good (sg p) = true ∧ first (sg p) = !(first p) ∧ (first p = false → lt8 (sg p) p)) :
    ∀ n pre suf, pre.length = n → C = pre ++ suf → stL good sg pre = pre.filter fun p => good p && first p := by
  intro n
  induction n with
  | zero => intro pre suf hl _; obtain rfl := List.length_eq_zero_iff.1 hl; rfl
  | succ n ih =>
    intro pre suf hl hCe
    obtain ⟨qs, p, rfl⟩ : ∃ qs p, pre = qs ++ [p] := ⟨pre.dropLast, pre.getLast (by intro e; simp [e] at hl), (List.dropLast_concat_getLast _).symm⟩
    have hq : qs.length = n := by simpa using hl
    have hCq : C = qs ++ ([p] ++ suf) := by rw [hCe, List.append_assoc]
    have IH := ih qs ([p] ++ suf) hq hCq
    rw [stL_app, IH, List.filter_append]
    unfold stp
    cases hg : good p
    · simp [hg]
    · obtain ⟨m1, m2, m3, m4⟩ := h1 p (by rw [hCe]; simp) hg
      cases hf : first p
      · have hin : sg p ∈ qs := by
          have hlt := m4 hf
          rw [hCq] at m1 hC
          rcases List.mem_append.1 m1 with h | h
          · exact h
          · exfalso
            rcases List.mem_append.1 h with h | h
            · have e : sg p = p := by simpa using h
              rw [e] at hlt; exact lt8_irr p hlt
            · have h3 := (List.pairwise_append.1 (List.pairwise_append.1 hC).2.1).2.2 p (by simp) _ h
              exact lt8_asym h3 hlt
        have hc : (List.filter (fun p => good p && first p) qs).contains (sg p) = true := by
          rw [List.contains_iff_mem]
          exact List.mem_filter.2 ⟨hin, by rw [m2, m3, hf]; rfl⟩
        rw [hc]; simp [hg, hf]
      · have hc : (List.filter (fun p => good p && first p) qs).contains (sg p) = false := by
          cases hh : (List.filter (fun p => good p && first p) qs).contains (sg p)
          · rfl
          · exfalso
            rw [List.contains_iff_mem] at hh
            have h3 := (List.mem_filter.1 hh).2
            rw [m3, hf] at h3
            simp at h3
        rw [hc]; simp [hg, hf]
/-- a cell is not waxed, nor its partner, which is a cell -/
def goodP (s : Sh) (a c : Nat) (ax : Int) (d : Bool) (p : Sp8) : Bool :=
  insB a c (prX ax d p.1.1) (prY ax d p.1.2) && !(waxB s p.1.1 p.1.2) && !(waxB s (prX ax d p.1.1).toNat (prY ax d p.1.2).toNat)
def sgP (ax : Int) (d : Bool) (p : Sp8) : Sp8 := mk8 (prX ax d p.1.1).toNat (prY ax d p.1.2).toNat
def firstP (ax : Int) (d : Bool) (p : Sp8) : Bool := if d then decide ((p.1.2 : Int) < ax) else decide ((p.1.1 : Int) < ax)
theorem sgP_val {a c : Nat} {ax : Int} {d : Bool} {p : Sp8} (ha : a ≤ 8) (hc : c ≤ 8) (h : insB a c (prX ax d p.1.1) (prY ax d p.1.2) = true) : (((sgP ax d p).1.1 : Nat) : Int) = prX ax d p.1.1 ∧ (((sgP ax d p).1.2 : Nat) : Int) = prY ax d p.1.2 := by
  simp only [insB, Bool.and_eq_true, decide_eq_true_eq] at h
  unfold sgP
  rw [mk8_x (by omega) (by omega)]
  constructor <;> (simp only; omega)
theorem goodP_sym (s : Sh) {a c : Nat} {ax : Int} {d : Bool} (ha : a ≤ 8) (hc : c ≤ 8) (p : Sp8) (hp : p ∈ cellsL a c) (hg : goodP s a c ax d p = true) :
    sgP ax d p ∈ cellsL a c ∧ goodP s a c ax d (sgP ax d p) = true ∧ firstP ax d (sgP ax d p) = !(firstP ax d p) ∧ (firstP ax d p = false → lt8 (sgP ax d p) p) ∧ sgP ax d (sgP ax d p) = p := by
  have hm := (cellsL_mem ha hc p).1 hp
  have hin : insB a c (prX ax d p.1.1) (prY ax d p.1.2) = true := by
    unfold goodP at hg; simp only [Bool.and_eq_true] at hg; exact hg.1.1
  have hv := sgP_val ha hc hin
  have hin2 := hin
  simp only [insB, Bool.and_eq_true, decide_eq_true_eq] at hin2
  have hpx : prX ax d ((sgP ax d p).1.1 : Int) = p.1.1 := by rw [hv.1]; unfold prX; cases d <;> simp <;> omega
  have hpy : prY ax d ((sgP ax d p).1.2 : Int) = p.1.2 := by rw [hv.2]; unfold prY; cases d <;> simp <;> omega
  have hss : sgP ax d (sgP ax d p) = p := by
    unfold sgP at hpx hpy ⊢
    rw [hpx, hpy]
    exact Subtype.ext (mk8_x (by simpa using p.2.1) (by simpa using p.2.2))
  have hx : (sgP ax d p).1.1 = (prX ax d p.1.1).toNat := by omega
  have hy : (sgP ax d p).1.2 = (prY ax d p.1.2).toNat := by omega
  refine ⟨(cellsL_mem ha hc _).2 ⟨by omega, by omega⟩, ?_, ?_, ?_, hss⟩
  · unfold goodP at hg ⊢
    rw [hpx, hpy, hx, hy]
    simp only [Bool.and_eq_true] at hg ⊢
    refine ⟨⟨?_, hg.2⟩, by simpa using hg.1.2⟩
    simp only [insB, Bool.and_eq_true, decide_eq_true_eq]; omega
  · unfold firstP
    cases d
    · simp only [Bool.false_eq_true, if_false]
      rw [hv.1]
      unfold prX at hin2 ⊢
      simp only [Bool.false_eq_true, if_false] at hin2 ⊢
      by_cases h : (p.1.1 : Int) < ax
      · rw [decide_eq_true h, decide_eq_false (by omega)]; rfl
      · rw [decide_eq_false h, decide_eq_true (by omega)]; rfl
    · simp only [if_true]
      rw [hv.2]
      unfold prY at hin2 ⊢
      simp only [if_true] at hin2 ⊢
      by_cases h : (p.1.2 : Int) < ax
      · rw [decide_eq_true h, decide_eq_false (by omega)]; rfl
      · rw [decide_eq_false h, decide_eq_true (by omega)]; rfl
  · intro hf
    unfold firstP at hf
    unfold lt8
    cases d
    · simp only [Bool.false_eq_true, if_false, decide_eq_false_iff_not] at hf
      have h1 := hv.1; have h2 := hv.2
      unfold prX at h1; unfold prY at h2
      simp only [Bool.false_eq_true, if_false] at h1 h2
      right; omega
    · simp only [if_true, decide_eq_false_iff_not] at hf
      have h1 := hv.1; have h2 := hv.2
      unfold prX at h1; unfold prY at h2
      simp only [if_true] at h1 h2
      left; omega
/-- the first cells of all pairs, in their order -/
def prsL (s : Sh) (a c : Nat) (ax : Int) (d : Bool) : List Sp8 := (cellsL a c).filter fun p => goodP s a c ax d p && firstP ax d p
theorem prsL_st (s : Sh) {a c : Nat} {ax : Int} {d : Bool} (ha : a ≤ 8) (hc : c ≤ 8) : stL (goodP s a c ax d) (sgP ax d) (cellsL a c) = prsL s a c ax d :=
  stL_eq (cellsL a c) (cellsL_lt ha hc) _ (firstP ax d) _ (fun p hp hg => by
    obtain ⟨h1, h2, h3, h4, _⟩ := goodP_sym s ha hc p hp hg
    exact ⟨h1, h2, h3, h4⟩) _ _ [] rfl (by rw [List.append_nil])
end Go.Proofs.YtmcpaangofdmpaaDoor
