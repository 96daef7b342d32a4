import Derived.Test.YtfhfiaphdgfmnaaDoorDye
import Derived.Test.YtfhfiaphdgfmnaaDoorWax1
namespace Go.Proofs.YtfhfiaphdgfmnaaDoor
open Go.RowKit
set_option maxRecDepth 100000
set_option linter.unusedVariables false
def amtB (n : Int) : Bool := decide (0 ≤ n) && decide (n ≤ 1000)
def watB (n : Int) : Bool := decide (0 ≤ n) && decide (n ≤ 200)
def fineB (k n m : Int) : Bool := inkB k && (amtB n && watB m)
theorem lin_amt (n : Int) (w : World) : Calls Tryd.prog 40 #[.int .i64 n, .int .i64 0, .int .i64 1000] w fun e w' => e = .returned (.bool (amtB n)) ∧ Below w.heap.size w w' := by
  by_cases h : 0 ≤ n ∧ n ≤ 1000
  · rw [show amtB n = true by simp [amtB]; omega]; exact in_yes _ _ _ (by omega) (by omega) w
  · rw [show amtB n = false by simp [amtB]; omega]; exact in_no _ _ _ (by omega) w
theorem lin_wat (n : Int) (w : World) : Calls Tryd.prog 40 #[.int .i64 n, .int .i64 0, .int .i64 200] w fun e w' => e = .returned (.bool (watB n)) ∧ Below w.heap.size w w' := by
  by_cases h : 0 ≤ n ∧ n ≤ 200
  · rw [show watB n = true by simp [watB]; omega]; exact in_yes _ _ _ (by omega) (by omega) w
  · rw [show watB n = false by simp [watB]; omega]; exact in_no _ _ _ (by omega) w
def Sh.setDye (s : Sh) (j : Nat) (v : Int) : Sh := { s with dye := fun i => if i = j then v else s.dye i }
def Sh.setWet (s : Sh) (j : Nat) (v : Int) : Sh := { s with wet := fun i => if i = j then v else s.wet i }
theorem dye_at (s : Sh) (o j : Nat) (ho : o = 66 + j) (hj : j < 192) (v : Int) : vrow 266 (over s.at o 1 fun _ => .int .i16 v) = vrow 266 (s.setDye j v).at := vrow_ext _ _ _ fun i hi => by
  subst ho
  unfold over Sh.at Sh.setDye
  by_cases h : 66 + j ≤ i ∧ i < 66 + j + 1
  · have h0 : ¬ i = 0 := by omega
    have h1 : ¬ i = 1 := by omega
    have h2 : ¬ i < 66 := by omega
    have h3 : i < 258 := by omega
    have h4 : i - 66 = j := by omega
    simp [h, h0, h1, h2, h3, h4]
  · rw [if_neg h]
    by_cases h0 : i = 0
    · simp [h0]
    · by_cases h1 : i = 1
      · simp [h1]
      · by_cases h2 : i < 66
        · simp [h0, h1, h2]
        · by_cases h3 : i < 258
          · have h4 : ¬ i - 66 = j := by omega
            simp [h0, h1, h2, h3, h4]
          · simp [h0, h1, h2, h3]
theorem wet_at (s : Sh) (o j : Nat) (ho : o = 2 + j) (hj : j < 64) (v : Int) : vrow 266 (over s.at o 1 fun _ => .int .i16 v) = vrow 266 (s.setWet j v).at := vrow_ext _ _ _ fun i hi => by
  subst ho
  unfold over Sh.at Sh.setWet
  by_cases h : 2 + j ≤ i ∧ i < 2 + j + 1
  · have h0 : ¬ i = 0 := by omega
    have h1 : ¬ i = 1 := by omega
    have h2 : i < 66 := by omega
    have h4 : i - 2 = j := by omega
    simp [h, h0, h1, h2, h4]
  · rw [if_neg h]
    by_cases h0 : i = 0
    · simp [h0]
    · by_cases h1 : i = 1
      · simp [h1]
      · by_cases h2 : i < 66
        · have h4 : ¬ i - 2 = j := by omega
          simp [h0, h1, h2, h4]
        · by_cases h3 : i < 258
          · simp [h0, h1, h2, h3]
          · simp [h0, h1, h2, h3]
theorem setDye_wet (s : Sh) (j : Nat) (v : Int) (i : Nat) : (s.setDye j v).wet i = s.wet i := rfl
theorem fine_parts {k n m : Int} (h : fineB k n m = true) : inkB k = true ∧ amtB n = true ∧ watB m = true := by simpa [fineB] using h
end Go.Proofs.YtfhfiaphdgfmnaaDoor
