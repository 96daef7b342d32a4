import Derived.Deep.SlicePairs
import Derived.Test.YthienbbecbakjaaDoorOpen
import Derived.Test.YthienbbecbakjaaDoorPB1
namespace Go.Proofs.YthienbbecbakjaaDoor
open Go.RowKit
set_option maxRecDepth 100000
set_option linter.unusedVariables false
set_option linter.unusedSimpArgs false
open Go.ChangeShapes Go.WideShapes Go.ChangeAt Go.Deep
theorem wfp8 {n : Int} (h : (Lit.int .i8 n).wf = true) : -128 ≤ n ∧ n ≤ 127 := by simp [Lit.wf, IntKind.min, IntKind.max, IntKind.bits, IntKind.signed] at h; omega
/-- A PATH THAT CAME IN. -/
theorem open_path {H : Type} {enc : TypeId × Value → H} {W : World} {r : Reach} {b0 base : Nat} {spare : Nat → Bool} {held : Bool} {v : Value} {d : DataW H} {p : List MemPlace}
    (hv : Value.okWide Tryd.prog W r b0 32 v) (h : DataW.Trod enc Tryd.prog W base spare held 32 v d p) : ∃ (ao : Option Addr) (n cap : Nat) (px py : Nat → Int), n ≤ 9223372036854775807 ∧ (∀ i, i < n → -128 ≤ px i ∧ px i ≤ 127) ∧ (∀ i, i < n → -128 ≤ py i ∧ py i ≤ 127) ∧ PathC W ao n px py ∧ v = .slice ao n cap ∧ ∀ x ∈ p, x.block < W.heap.size := by
  obtain ⟨a, len, cap, rfl⟩ := okWide_slice Tryd.underlying32 hv
  obtain ⟨fuel, hf⟩ := h
  have hlt := DataW.trod_lt fuel _ _ _ hf
  rcases open_slice_pairs Tryd.underlying32 Tryd.underlying63 (by kernel_rfl) rfl rfl (by kernel_rfl) (by kernel_rfl) hf with ⟨hc, hx⟩ | ⟨a', len', cap', m, n, V0, V1, D0, D1, P0, P1, hc, hb, hl, hcap, hm, hx, hall⟩
  · simp [Value.cells] at hc
    obtain ⟨rfl, rfl, rfl⟩ := hc
    exact ⟨none, 0, 0, fun _ => 0, fun _ => 0, by omega, fun _ h => absurd h (by omega), fun _ h => absurd h (by omega), fun h => absurd h (by omega), rfl, hlt⟩
  · simp [Value.cells] at hc
    obtain ⟨rfl, rfl, rfl⟩ := hc
    have hlm : len ≤ m := by rw [hm]; split <;> omega
    have e0 : ∀ i, i < len → V0 i = .int .i8 (intOf (V0 i)) ∧ -128 ≤ intOf (V0 i) ∧ intOf (V0 i) ≤ 127 := fun i hi => by
      obtain ⟨z, hz, _, hw⟩ := DataW.trod_int Tryd.underlying22 (hall i (by omega)).2.2.1
      simp only [List.cons.injEq, and_true] at hz
      rw [hz]; exact ⟨rfl, wfp8 hw⟩
    have e1 : ∀ i, i < len → V1 i = .int .i8 (intOf (V1 i)) ∧ -128 ≤ intOf (V1 i) ∧ intOf (V1 i) ≤ 127 := fun i hi => by
      obtain ⟨z, hz, _, hw⟩ := DataW.trod_int Tryd.underlying22 (hall i (by omega)).2.2.2
      simp only [List.cons.injEq, and_true] at hz
      rw [hz]; exact ⟨rfl, wfp8 hw⟩
    refine ⟨some a', len, cap, fun i => intOf (V0 i), fun i => intOf (V1 i), Nat.le_trans hl (Nat.le_trans hcap (by decide)), fun i hi => (e0 i hi).2, fun i hi => (e1 i hi).2, fun hn => ?_, rfl, hlt⟩
    obtain ⟨b, off, spot⟩ := a'
    have h0 := (hall 0 (by omega)).1
    have hbl := World.block_lt_of_cell? W _ h0
    have hsp : spot = none := by
      cases spot with
      | none => rfl
      | some q =>
        exfalso
        simp only [Addr.add, Nat.zero_mul, if_true] at h0
        unfold World.cell? at h0
        split at h0 <;> simp at h0
    subst hsp
    refine ⟨b, off, rfl, by simpa [Addr.add] using hbl, fun i hi => ?_⟩
    have ha : ∀ k, (⟨b, off, none⟩ : Addr).add k = ⟨b, off + k, none⟩ := fun k => by
      unfold Addr.add
      by_cases hk : k = 0
      · rw [if_pos hk, hk]; rfl
      · rw [if_neg hk]
    obtain ⟨c0, c1, _, _⟩ := hall i (by omega)
    rw [ha] at c0 c1
    rw [← Nat.add_assoc] at c1
    exact ⟨by rw [c0, (e0 i hi).1], by rw [c1, (e1 i hi).1]⟩
end Go.Proofs.YthienbbecbakjaaDoor
