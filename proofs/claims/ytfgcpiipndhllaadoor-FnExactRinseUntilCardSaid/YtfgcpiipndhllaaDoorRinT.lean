import Derived.Test.YtfgcpiipndhllaaDoorRinM
import Derived.Test.YtfgcpiipndhllaaDoorBest
namespace Go.Proofs.YtfgcpiipndhllaaDoor
open Go.RowKit
set_option maxRecDepth 100000
set_option linter.unusedVariables false
set_option linter.unusedSimpArgs false
/-- what a rinse takes of a cell, and what it leaves -/
theorem rinN_dye (k : Int) (o : Nat) (T : RS) : ∀ n j, n ≤ 3 → (rinN k o T n).1.dye j = if o ≤ j ∧ j < o + n then T.1.dye j - rpart k (T.1.dye j) else T.1.dye j
  | 0, j, _ => by rw [if_neg (by omega)]; rfl
  | n + 1, j, hn => by
    have ih := rinN_dye k o T n
    show (if j = o + n then (rinN k o T n).1.dye (o + n) - rpart k ((rinN k o T n).1.dye (o + n)) else (rinN k o T n).1.dye j) = _
    rw [ih (o + n) (by omega), ih j (by omega), if_neg (show ¬ (o ≤ o + n ∧ o + n < o + n) by omega)]
    by_cases h : j = o + n
    · subst h; rw [if_pos rfl, if_pos (by omega)]
    · rw [if_neg h]
      by_cases h2 : o ≤ j ∧ j < o + n
      · rw [if_pos h2, if_pos (by omega)]
      · rw [if_neg h2, if_neg (by omega)]
theorem rinN_out (k : Int) (o : Nat) (T : RS) : ∀ n m, n ≤ 3 → (rinN k o T n).2 m = if m < n then T.2 m + rpart k (T.1.dye (o + m)) else T.2 m
  | 0, m, _ => by rw [if_neg (by omega)]; rfl
  | n + 1, m, hn => by
    have ih := rinN_out k o T n
    show (if m = n then (rinN k o T n).2 m + rpart k ((rinN k o T n).1.dye (o + n)) else (rinN k o T n).2 m) = _
    rw [ih m (by omega), rinN_dye k o T n (o + n) (by omega), if_neg (show ¬ (o ≤ o + n ∧ o + n < o + n) by omega)]
    by_cases h : m = n
    · subst h; rw [if_pos rfl, if_neg (by omega), if_pos (by omega)]
    · rw [if_neg h]
      by_cases h2 : m < n
      · rw [if_pos h2, if_pos (by omega)]
      · rw [if_neg h2, if_neg (by omega)]
/-- all that has been taken out -/
def outS (T : RS) : Int := T.2 0 + T.2 1 + T.2 2
theorem outC (k : Int) (T : RS) (p : Sp8) : outS (rinC k T p) = outS T + (rpart k (T.1.dye (24 * p.1.2 + 3 * p.1.1)) + rpart k (T.1.dye (24 * p.1.2 + 3 * p.1.1 + 1)) + rpart k (T.1.dye (24 * p.1.2 + 3 * p.1.1 + 2))) := by
  unfold outS rinC
  rw [rinN_out k _ T 3 0 (by omega), rinN_out k _ T 3 1 (by omega), rinN_out k _ T 3 2 (by omega), if_pos (by omega), if_pos (by omega), if_pos (by omega), Nat.add_zero]
  omega
theorem dyeC (k : Int) (T : RS) (p : Sp8) (j : Nat) : (rinC k T p).1.dye j = if 24 * p.1.2 + 3 * p.1.1 ≤ j ∧ j < 24 * p.1.2 + 3 * p.1.1 + 3 then T.1.dye j - rpart k (T.1.dye j) else T.1.dye j := rinN_dye k _ T 3 j (by omega)
theorem inkC {k : Int} (h1 : 1 ≤ k) (h2 : k ≤ 15) {T : RS} (h : ∀ j, 0 ≤ T.1.dye j) (p : Sp8) : ∀ j, 0 ≤ (rinC k T p).1.dye j := fun j => by
  obtain ⟨a1, a2, _⟩ := rpart_bd h1 h2 (h j)
  rw [dyeC]
  split
  · omega
  · exact h j
/-- the amount of a cell -/
def cellD (T : RS) (p : Sp8) : Int := T.1.dye (24 * p.1.2 + 3 * p.1.1) + T.1.dye (24 * p.1.2 + 3 * p.1.1 + 1) + T.1.dye (24 * p.1.2 + 3 * p.1.1 + 2)
theorem outC_ge {k : Int} (h1 : 1 ≤ k) (h2 : k ≤ 15) {T : RS} (h : ∀ j, 0 ≤ T.1.dye j) (p : Sp8) : outS T ≤ outS (rinC k T p) ∧ (1 ≤ cellD T p → outS T + 1 ≤ outS (rinC k T p)) ∧ (cellD T p ≤ 0 → ∀ j, (rinC k T p).1.dye j = T.1.dye j) := by
  obtain ⟨a1, a2, _, _, a3⟩ := rpart_bd h1 h2 (h (24 * p.1.2 + 3 * p.1.1))
  obtain ⟨b1, b2, _, _, b3⟩ := rpart_bd h1 h2 (h (24 * p.1.2 + 3 * p.1.1 + 1))
  obtain ⟨c1, c2, _, _, c3⟩ := rpart_bd h1 h2 (h (24 * p.1.2 + 3 * p.1.1 + 2))
  have ha := h (24 * p.1.2 + 3 * p.1.1)
  have hb := h (24 * p.1.2 + 3 * p.1.1 + 1)
  have hc := h (24 * p.1.2 + 3 * p.1.1 + 2)
  rw [outC]
  unfold cellD
  refine ⟨by omega, fun hq => ?_, fun hq j => ?_⟩
  · by_cases x1 : 1 ≤ T.1.dye (24 * p.1.2 + 3 * p.1.1)
    · have := a3 x1; omega
    · by_cases x2 : 1 ≤ T.1.dye (24 * p.1.2 + 3 * p.1.1 + 1)
      · have := b3 x2; omega
      · have := c3 (by omega); omega
  · rw [dyeC]
    split
    · rename_i hj
      have hz : T.1.dye j = 0 := by
        have : j = 24 * p.1.2 + 3 * p.1.1 ∨ j = 24 * p.1.2 + 3 * p.1.1 + 1 ∨ j = 24 * p.1.2 + 3 * p.1.1 + 2 := by omega
        rcases this with e | e | e <;> rw [e] <;> omega
      rw [hz]; simp [rpart]
    · rfl
theorem outL {k : Int} (h1 : 1 ≤ k) (h2 : k ≤ 15) : ∀ (l : List Sp8) {T : RS}, (∀ j, 0 ≤ T.1.dye j) → outS T ≤ outS (rinS k T l) ∧ ((∃ p ∈ l, 1 ≤ cellD T p) → outS T + 1 ≤ outS (rinS k T l))
  | [], T, _ => ⟨by show outS T ≤ outS T; omega, fun ⟨p, hp, _⟩ => by cases hp⟩
  | q :: l, T, h => by
    obtain ⟨g1, g2, g3⟩ := outC_ge h1 h2 h q
    obtain ⟨r1, r2⟩ := outL h1 h2 l (inkC h1 h2 h q)
    have e : rinS k T (q :: l) = rinS k (rinC k T q) l := rfl
    rw [e]
    refine ⟨by omega, fun ⟨p, hp, hd⟩ => ?_⟩
    by_cases c : 1 ≤ cellD T q
    · have := g2 c; omega
    · have hs := g3 (by omega)
      rcases List.mem_cons.1 hp with rfl | hp
      · omega
      · have hd' : 1 ≤ cellD (rinC k T q) p := by unfold cellD at hd ⊢; rw [hs, hs, hs]; exact hd
        have := r2 ⟨p, hp, hd'⟩
        omega
theorem best_le (f : Nat → Nat → Int) (M : Int) (hM : 0 ≤ M) : ∀ (l : List Sp8), (∀ p ∈ l, f p.1.1 p.1.2 ≤ M) → (best f l).2 ≤ M := by
  have key : ∀ (l : List Sp8) (b : (Nat × Nat) × Int), (∀ p ∈ l, f p.1.1 p.1.2 ≤ M) → b.2 ≤ M → (l.foldl (bestStep f) b).2 ≤ M := by
    intro l
    induction l with
    | nil => intro b _ h; exact h
    | cons q l ih =>
      intro b hl hb
      refine ih _ (fun p hp => hl p (List.mem_cons_of_mem _ hp)) ?_
      unfold bestStep
      split
      · exact hl q List.mem_cons_self
      · exact hb
  exact fun l hl => key l _ hl hM
/-- the sheet, how many rinses there were, and all that they have taken out -/
structure RU where
  s : Sh
  n : Int
  o : Nat → Int
def rnd (k : Int) (L : List Sp8) (U : RU) : RU := ⟨(rinS k (U.s, fun _ => 0) L).1, U.n + 1, fun m => U.o m + (rinS k (U.s, fun _ => 0) L).2 m⟩
def rnds (k : Int) (L : List Sp8) (U : RU) : Nat → RU
  | 0 => U
  | j + 1 => rnd k L (rnds k L U j)
def dk (L : List Sp8) (s : Sh) : Int := (best (darkB s) L).2
/-- what is kept over the rinses -/
structure RUG (s : Sh) (j : Nat) (U : RU) : Prop where
  gd : Gd s U.s
  wet : U.s.wet = s.wet
  n : U.n = j
  sum : ∀ m, m < 3 → isum U.s m 64 + U.o m = isum s m 64
theorem RUG.start {s : Sh} (h : Gd s s) : RUG s 0 ⟨s, 0, fun _ => 0⟩ := ⟨h, rfl, rfl, fun m _ => by show isum s m 64 + 0 = _; omega⟩
theorem RUG.step {s : Sh} {j : Nat} {U : RU} (h : RUG s j U) {k : Int} (h1 : 1 ≤ k) (h2 : k ≤ 15) (L : List Sp8) : RUG s (j + 1) (rnd k L U) := by
  have hs : Gd U.s U.s := Gd.start h.gd.ok h.gd.ink h.gd.fit
  have hr := RinG.cells h1 h2 L (RinG.start hs fun _ => 0)
  refine ⟨?_, hr.wet.trans h.wet, ?_, fun m hm => ?_⟩
  · exact ⟨hr.gd.wax.trans h.gd.wax, hr.gd.wide.trans h.gd.wide, hr.gd.high.trans h.gd.high, hr.gd.ok, hr.gd.ink, hr.gd.fit⟩
  · show U.n + 1 = _
    rw [h.n]; omega
  · have a := hr.sum m hm
    have b := h.sum m hm
    show isum (rinS k (U.s, fun _ => 0) L).1 m 64 + (U.o m + (rinS k (U.s, fun _ => 0) L).2 m) = _
    omega
theorem RUG.all {s : Sh} (h : Gd s s) {k : Int} (h1 : 1 ≤ k) (h2 : k ≤ 15) (L : List Sp8) : ∀ j, RUG s j (rnds k L ⟨s, 0, fun _ => 0⟩ j)
  | 0 => RUG.start h
  | j + 1 => (RUG.all h h1 h2 L j).step h1 h2 L
theorem RUG.bd {s : Sh} {j : Nat} {U : RU} (h : RUG s j U) (hi : InkOk s) {m : Nat} (hm : m < 3) : 0 ≤ isum U.s m 64 ∧ U.o m ≤ 64000 := by
  have a := isum_ink h.gd.ink m 64
  have b := isum_ink hi m 64
  have c := h.sum m hm
  omega
/-- each rinse takes something out, while a cell is darker than nothing -/
theorem RUG.less {s : Sh} {j : Nat} {U : RU} (h : RUG s j U) {k : Int} (h1 : 1 ≤ k) (h2 : k ≤ 15) (L : List Sp8) (hd : 1 ≤ dk L U.s) : U.o 0 + U.o 1 + U.o 2 + 1 ≤ (rnd k L U).o 0 + (rnd k L U).o 1 + (rnd k L U).o 2 := by
  have he : ∃ p ∈ L, 1 ≤ cellD (U.s, fun _ => 0) p := by
    apply Classical.byContradiction
    intro hc
    have : dk L U.s ≤ 0 := best_le _ 0 (Int.le_refl _) L fun p hp => by
      have hn : ¬ 1 ≤ cellD (U.s, fun _ => 0) p := fun hq => hc ⟨p, hp, hq⟩
      unfold cellD at hn
      unfold darkB
      simp only at hn
      omega
    omega
  have := (outL h1 h2 L (T := (U.s, fun _ => 0)) (fun j => (h.gd.ink j).1)).2 he
  unfold outS at this
  show _ ≤ (U.o 0 + (rinS k (U.s, fun _ => 0) L).2 0) + (U.o 1 + (rinS k (U.s, fun _ => 0) L).2 1) + (U.o 2 + (rinS k (U.s, fun _ => 0) L).2 2)
  simp only at this
  omega
/-- the rinses end -/
theorem rnds_end {s : Sh} (h : Gd s s) {k b : Int} (h1 : 1 ≤ k) (h2 : k ≤ 15) (hb : 0 ≤ b) (L : List Sp8) : ∃ j, j ≤ 200000 ∧ dk L (rnds k L ⟨s, 0, fun _ => 0⟩ j).s ≤ b ∧ ∀ i, i < j → b < dk L (rnds k L ⟨s, 0, fun _ => 0⟩ i).s := by
  have key : ∀ n, (∀ i, i < n → b < dk L (rnds k L ⟨s, 0, fun _ => 0⟩ i).s) → (n : Int) ≤ (rnds k L ⟨s, 0, fun _ => 0⟩ n).o 0 + (rnds k L ⟨s, 0, fun _ => 0⟩ n).o 1 + (rnds k L ⟨s, 0, fun _ => 0⟩ n).o 2 := by
    intro n
    induction n with
    | zero => intro _; show ((0 : Nat) : Int) ≤ 0 + 0 + 0; omega
    | succ n ih =>
      intro hn
      have a := ih fun i hi => hn i (by omega)
      have := hn n (by omega)
      have c := (RUG.all h h1 h2 L n).less h1 h2 L (by omega)
      show ((n + 1 : Nat) : Int) ≤ (rnd k L _).o 0 + (rnd k L _).o 1 + (rnd k L _).o 2
      omega
  have find : ∀ n, (∃ j, j ≤ n ∧ dk L (rnds k L ⟨s, 0, fun _ => 0⟩ j).s ≤ b ∧ ∀ i, i < j → b < dk L (rnds k L ⟨s, 0, fun _ => 0⟩ i).s) ∨ ∀ i, i < n + 1 → b < dk L (rnds k L ⟨s, 0, fun _ => 0⟩ i).s := by
    intro n
    induction n with
    | zero =>
      by_cases c : dk L (rnds k L ⟨s, 0, fun _ => 0⟩ 0).s ≤ b
      · exact .inl ⟨0, by omega, c, fun i hi => by omega⟩
      · refine .inr fun i hi => ?_
        obtain rfl : i = 0 := by omega
        omega
    | succ n ih =>
      rcases ih with ⟨j, hj, r⟩ | hall
      · exact .inl ⟨j, by omega, r⟩
      · by_cases c : dk L (rnds k L ⟨s, 0, fun _ => 0⟩ (n + 1)).s ≤ b
        · exact .inl ⟨n + 1, by omega, c, hall⟩
        · refine .inr fun i hi => ?_
          by_cases e : i = n + 1
          · subst e; omega
          · exact hall i (by omega)
  rcases find 200000 with h' | hall
  · exact h'
  · exfalso
    have a := key 200001 hall
    have c0 := (RUG.all h h1 h2 L 200001).bd h.ink (m := 0) (by omega)
    have c1 := (RUG.all h h1 h2 L 200001).bd h.ink (m := 1) (by omega)
    have c2 := (RUG.all h h1 h2 L 200001).bd h.ink (m := 2) (by omega)
    omega
end Go.Proofs.YtfgcpiipndhllaaDoor
