import Derived.Test.YtfgcpiipndhllaaDoorGdB
import Derived.Test.YtfgcpiipndhllaaDoorSums
namespace Go.Proofs.YtfgcpiipndhllaaDoor
open Go.RowKit
set_option maxRecDepth 100000
set_option linter.unusedVariables false
set_option linter.unusedSimpArgs false
def Sh.pd (s : Sh) (j : Nat) (v : Int) : Sh := ⟨s.wide, s.high, s.wet, fun i => if i = j then v else s.dye i, s.wax⟩
theorem Sh.pd_at (s : Sh) (o j : Nat) (ho : o = 66 + j) (hj : j < 192) (v : Int) : vrow 266 (over s.at o 1 fun _ => .int .i16 v) = vrow 266 (s.pd j v).at := vrow_ext _ _ _ fun i hi => by
  subst ho
  unfold over Sh.at Sh.pd
  dsimp only
  by_cases h : i = 66 + j
  · subst h
    rw [if_pos (by omega), if_neg (by omega), if_neg (by omega), if_neg (by omega), if_pos (by omega), if_pos (by omega)]
  · rw [if_neg (by omega)]
    by_cases h0 : i = 0
    · rw [if_pos h0, if_pos h0]
    · rw [if_neg h0, if_neg h0]
      by_cases h1 : i = 1
      · rw [if_pos h1, if_pos h1]
      · rw [if_neg h1, if_neg h1]
        by_cases h2 : i < 66
        · rw [if_pos h2, if_pos h2]
        · rw [if_neg h2, if_neg h2]
          by_cases h3 : i < 258
          · rw [if_pos h3, if_pos h3, if_neg (by omega)]
          · rw [if_neg h3, if_neg h3]
theorem pd_dye (s : Sh) (j : Nat) (v : Int) (i : Nat) : (s.pd j v).dye i = if i = j then v else s.dye i := rfl
/-- what a rinse takes of an amount -/
def rpart (k d : Int) : Int := (d * k + 15) / 16
theorem rpart_bd {k d : Int} (h1 : 1 ≤ k) (h2 : k ≤ 15) (hd : 0 ≤ d) : 0 ≤ rpart k d ∧ rpart k d ≤ d ∧ 0 ≤ d * k ∧ d * k ≤ 15 * d ∧ (1 ≤ d → 1 ≤ rpart k d) := by
  have m1 : d * 1 ≤ d * k := Int.mul_le_mul_of_nonneg_left h1 hd
  have m2 : d * k ≤ d * 15 := Int.mul_le_mul_of_nonneg_left h2 hd
  unfold rpart
  generalize d * k = m at *
  refine ⟨?_, ?_, ?_, ?_, fun h => ?_⟩ <;> omega
/-- a valid sheet with less dye is one -/
theorem valid_less {S T : Sh} {i j : Nat} (hi : i < 8) (hj : j < 8) (e1 : S.wax = T.wax) (e2 : S.wide = T.wide) (e3 : S.high = T.high) (e4 : S.wet = T.wet) (hd : ∀ m, 0 ≤ S.dye m ∧ S.dye m ≤ T.dye m) (h : validB T i j = true) : validB S i j = true := by
  have hh : hasB S i j = hasB T i j := by unfold hasB; rw [e2, e3]
  have hx : waxB S i j = waxB T i j := by unfold waxB; rw [e1]
  have d0 := hd (24 * j + 3 * i)
  have d1 := hd (24 * j + 3 * i + 1)
  have d2 := hd (24 * j + 3 * i + 2)
  unfold validB bareB dOk wOk at h ⊢
  rw [hh, hx, e4]
  clear hh hx
  generalize hasB T i j = p at h ⊢
  generalize waxB T i j = q at h ⊢
  cases p <;> cases q <;> simp at h ⊢ <;> omega
theorem Gd.less {s T S : Sh} (h : Gd s T) (e1 : S.wax = T.wax) (e2 : S.wide = T.wide) (e3 : S.high = T.high) (e4 : S.wet = T.wet) (hd : ∀ m, 0 ≤ S.dye m ∧ S.dye m ≤ T.dye m) : Gd s S := by
  have hi : InkOk S := fun i => by have := hd i; have := h.ink i; omega
  refine ⟨e1.trans h.wax, e2.trans h.wide, e3.trans h.high, ?_, hi, ?_⟩
  · obtain ⟨hdm, hV⟩ := (okI_iff T).1 h.ok
    exact (okI_iff _).2 ⟨by rw [e2, e3]; exact hdm, fun i j hi8 hj8 => valid_less hi8 hj8 e1 e2 e3 e4 hd (hV i j hi8 hj8)⟩
  · exact ⟨by rw [e2]; exact h.fit.wide, by rw [e3]; exact h.fit.high, by rw [e4]; exact h.fit.wet, fun i _ => by have := hi i; omega, by rw [e1]; exact h.fit.wax⟩
abbrev RS := Sh × (Nat → Int)
/-- an ink of a cell is rinsed: the sheet, and what has been taken out -/
def rinI (k : Int) (o : Nat) (T : RS) (i : Nat) : RS := (T.1.pd (o + i) (T.1.dye (o + i) - rpart k (T.1.dye (o + i))), fun m => if m = i then T.2 m + rpart k (T.1.dye (o + i)) else T.2 m)
def rinN (k : Int) (o : Nat) (T : RS) : Nat → RS
  | 0 => T
  | n + 1 => rinI k o (rinN k o T n) n
def rinC (k : Int) (T : RS) (p : Sp8) : RS := rinN k (24 * p.1.2 + 3 * p.1.1) T 3
def rinS (k : Int) (T : RS) (l : List Sp8) : RS := l.foldl (rinC k) T
theorem isum_pd (s : Sh) (c i : Nat) (v : Int) (hi : i < 3) (m : Nat) (hm : m < 3) : ∀ n, isum (s.pd (3 * c + i) v) m n = isum s m n + if m = i ∧ c < n then v - s.dye (3 * c + i) else 0
  | 0 => by simp [isum]
  | n + 1 => by
    simp only [isum, isum_pd s c i v hi m hm n, pd_dye]
    by_cases h : n = c ∧ m = i
    · obtain ⟨rfl, rfl⟩ := h
      rw [if_neg (by omega), if_pos rfl, if_pos (by omega)]; omega
    · rw [if_neg (show ¬ 3 * n + m = 3 * c + i by omega)]
      by_cases h2 : m = i ∧ c < n
      · rw [if_pos h2, if_pos (by omega)]; omega
      · rw [if_neg h2, if_neg (by omega)]; omega
theorem isum_ink {s : Sh} (h : InkOk s) (m : Nat) : ∀ n : Nat, 0 ≤ isum s m n ∧ isum s m n ≤ 1000 * (n : Int)
  | 0 => by simp [isum]
  | n + 1 => by
    have := isum_ink h m n
    have := h (3 * n + m)
    simp only [isum]; omega
/-- a sheet that is rinsed: what has been taken out and what is left are what there was -/
structure RinG (s : Sh) (o : Nat → Int) (T : RS) : Prop where
  gd : Gd s T.1
  wet : T.1.wet = s.wet
  sum : ∀ m, m < 3 → isum T.1 m 64 + T.2 m = isum s m 64 + o m
  out : ∀ m, m < 3 → o m ≤ T.2 m
  les : ∀ j, T.1.dye j ≤ s.dye j
theorem RinG.start {s : Sh} (h : Gd s s) (o : Nat → Int) : RinG s o (s, o) := ⟨h, rfl, fun _ _ => rfl, fun _ _ => Int.le_refl _, fun _ => Int.le_refl _⟩
theorem RinG.step {s : Sh} {o : Nat → Int} {T : RS} (h : RinG s o T) {k : Int} (h1 : 1 ≤ k) (h2 : k ≤ 15) {x y i : Nat} (hx : x < 8) (hy : y < 8) (hi : i < 3) : RinG s o (rinI k (24 * y + 3 * x) T i) := by
  have hd := h.gd.ink (24 * y + 3 * x + i)
  obtain ⟨p1, p2, _⟩ := rpart_bd h1 h2 hd.1
  refine ⟨h.gd.less rfl rfl rfl rfl fun m => ?_, h.wet, fun m hm => ?_, fun m hm => ?_, fun j => ?_⟩
  · show 0 ≤ (T.1.pd _ _).dye m ∧ (T.1.pd _ _).dye m ≤ _
    rw [pd_dye]
    have := h.gd.ink m
    split
    · rename_i e; subst e; omega
    · omega
  · have := h.sum m hm
    show isum (T.1.pd _ _) m 64 + (if m = i then _ else _) = _
    rw [show 24 * y + 3 * x + i = 3 * (8 * y + x) + i by omega] at *
    rw [isum_pd T.1 (8 * y + x) i _ hi m hm 64]
    by_cases c : m = i
    · rw [if_pos ⟨c, by omega⟩, if_pos c]; omega
    · rw [if_neg (by omega), if_neg c]; omega
  · have := h.out m hm
    show _ ≤ if m = i then _ else _
    split <;> omega
  · have := h.les j
    show (T.1.pd _ _).dye j ≤ _
    rw [pd_dye]
    split
    · rename_i e; subst e; omega
    · exact this
theorem RinG.ink {s : Sh} {o : Nat → Int} {T : RS} (h : RinG s o T) {k : Int} (h1 : 1 ≤ k) (h2 : k ≤ 15) {x y : Nat} (hx : x < 8) (hy : y < 8) : ∀ n, n ≤ 3 → RinG s o (rinN k (24 * y + 3 * x) T n)
  | 0, _ => h
  | n + 1, hn => (RinG.ink h h1 h2 hx hy n (by omega)).step h1 h2 hx hy (by omega)
theorem RinG.cells {s : Sh} {o : Nat → Int} {k : Int} (h1 : 1 ≤ k) (h2 : k ≤ 15) : ∀ (l : List Sp8) {T : RS}, RinG s o T → RinG s o (rinS k T l)
  | [], _, h => h
  | p :: l, _, h => RinG.cells h1 h2 l (h.ink h1 h2 p.2.1 p.2.2 3 (Nat.le_refl _))
theorem RinG.bd {s : Sh} {o : Nat → Int} {T : RS} (h : RinG s o T) {m : Nat} (hm : m < 3) (hi : InkOk s) : o m ≤ T.2 m ∧ T.2 m ≤ o m + 64000 := by
  have := isum_ink h.gd.ink m 64
  have := isum_ink hi m 64
  have := h.sum m hm
  have := h.out m hm
  omega
/-- three numbers -/
def a3f (o : Nat → Int) (m : Nat) : Value := .int .i64 (o m)
theorem a3f_set (o : Nat → Int) (i : Nat) (v : Int) : vrow 3 (over (a3f o) i 1 fun _ => .int .i64 v) = vrow 3 (a3f fun m => if m = i then v else o m) := vrow_ext _ _ _ fun m _ => by
  unfold over a3f
  by_cases h : m = i
  · rw [if_pos (by omega)]; dsimp only; rw [if_pos h]
  · rw [if_neg (by omega)]; dsimp only; rw [if_neg h]
theorem a3f_zero : vrow 3 (fun _ => .int .i64 0) = vrow 3 (a3f fun _ => 0) := rfl
end Go.Proofs.YtfgcpiipndhllaaDoor
