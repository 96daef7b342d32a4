import Derived.Test.YtfhfiaphdgfmnaaDoorG1
import Derived.Test.YtfhfiaphdgfmnaaDoorReaders2
import Derived.Test.YtfhfiaphdgfmnaaDoorBr
namespace Go.Proofs.YtfhfiaphdgfmnaaDoor
open Go.RowKit
set_option maxRecDepth 100000
set_option linter.unusedVariables false
def onB (r : Int) (x : Nat) : Int := bits BinOp.or IntKind.u8 r (2 ^ x % 256)
def offB (r : Int) (x : Nat) : Int := bits BinOp.andNot IntKind.u8 r (2 ^ x % 256)
theorem on_off_nat : ∀ r : Nat, r < 256 → ∀ x : Nat, x < 8 → onB (offB (r : Int) x) x = onB (r : Int) x := by decide +kernel
theorem on_off (r : Int) (x : Nat) (hr : 0 ≤ r ∧ r ≤ 255) (hx : x < 8) : onB (offB r x) x = onB r x := by
  obtain ⟨n, rfl⟩ : ∃ n : Nat, r = n := ⟨r.toNat, by omega⟩
  exact on_off_nat n (by omega) x hx
def Sh.setWax (s : Sh) (y : Nat) (v : Int) : Sh := { s with wax := fun i => if i = y then v else s.wax i }
theorem wax_at (s : Sh) (y : Nat) (hy : y < 8) (v : Int) : vrow 266 (over s.at (258 + y) 1 fun _ => .int .u8 v) = vrow 266 (s.setWax y v).at := vrow_ext _ _ _ fun i hi => by
  unfold over Sh.at Sh.setWax
  by_cases h : 258 + y ≤ i ∧ i < 258 + y + 1
  · have h0 : ¬ i = 0 := by omega
    have h1 : ¬ i = 1 := by omega
    have h2 : ¬ i < 66 := by omega
    have h3 : ¬ i < 258 := by omega
    have h4 : i - 258 = y := by omega
    simp [h, h0, h1, h2, h3, h4]
  · rw [if_neg h]
    by_cases h0 : i = 0
    · simp [h0]
    · by_cases h1 : i = 1
      · simp [h1]
      · by_cases h2 : i < 66
        · simp [h0, h1, h2]
        · by_cases h3 : i < 258
          · simp [h0, h1, h2, h3]
          · have h4 : ¬ i - 258 = y := by omega
            simp [h0, h1, h2, h3, h4]
theorem setWax_two (s : Sh) (y : Nat) (u v : Int) : (s.setWax y u).setWax y v = s.setWax y v := by
  unfold Sh.setWax
  congr 1
  funext i
  by_cases h : i = y <;> simp [h]
set_option maxHeartbeats 400000 in
theorem withWax_on (r : Int) (x : Nat) (hx : x < 8) (h1 : 0 ≤ r ∧ r ≤ 255) (w : World) : Calls Tryd.prog 109 #[.int .u8 r, .int .i8 x, .bool true] w fun e w' => e = .returned (.int .u8 (onB r x)) ∧ Below w.heap.size w w' := by
  have hxI : (x : Int) < 8 := by omega
  go_enter Tryd.func109, Tryd.ntmps109
  go_wp2
  go_ret
  exact ⟨rfl, Below.refl _ _⟩
set_option maxHeartbeats 400000 in
theorem withWax_off (r : Int) (x : Nat) (hx : x < 8) (h1 : 0 ≤ r ∧ r ≤ 255) (w : World) : Calls Tryd.prog 109 #[.int .u8 r, .int .i8 x, .bool false] w fun e w' => e = .returned (.int .u8 (offB r x)) ∧ Below w.heap.size w w' := by
  have hxI : (x : Int) < 8 := by omega
  go_enter Tryd.func109, Tryd.ntmps109
  go_wp2
  go_ret
  exact ⟨rfl, Below.refl _ _⟩
end Go.Proofs.YtfhfiaphdgfmnaaDoor
