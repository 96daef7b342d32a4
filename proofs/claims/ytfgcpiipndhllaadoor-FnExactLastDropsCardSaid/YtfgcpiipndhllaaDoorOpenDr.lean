import Derived.Deep.SlicePairs
import Derived.Test.YtfgcpiipndhllaaDoorOpen
import Derived.Test.YtfgcpiipndhllaaDoorDrS
namespace Go.Proofs.YtfgcpiipndhllaaDoor
open Go.RowKit
set_option maxRecDepth 100000
set_option linter.unusedVariables false
set_option linter.unusedSimpArgs false
open Go.ChangeShapes Go.WideShapes Go.ChangeAt Go.Deep
theorem dwf8 {n : Int} (h : (Lit.int .i8 n).wf = true) : -128 ≤ n ∧ n ≤ 127 := by simp [Lit.wf, IntKind.min, IntKind.max, IntKind.bits, IntKind.signed] at h; omega
theorem dwfu8 {n : Int} (h : (Lit.int .u8 n).wf = true) : 0 ≤ n ∧ n ≤ 255 := by simp [Lit.wf, IntKind.min, IntKind.max, IntKind.bits, IntKind.signed] at h; omega
theorem cells_ldr : Tryd.prog.cellsOf 60 = 3 := by kernel_rfl
theorem cells_lsp : Tryd.prog.cellsOf 48 = 2 := by kernel_rfl
theorem cells_i8d : Tryd.prog.cellsOf 22 = 1 := by kernel_rfl
theorem cells_u8d : Tryd.prog.cellsOf 5 = 1 := by kernel_rfl
/-- three cells that read as a drop -/
theorem trod_drop {H : Type} {enc : TypeId × Value → H} {W : World} {base : Nat} {spare : Nat → Bool} {held : Bool} {fuel : Nat} {cs : List Value} {x : DataW H × List MemPlace}
    (hl : cs.length = 3) (h : DataW.trod enc Tryd.prog W base spare held fuel 60 cs = some x) : ∃ a b n : Int, cs = [.int .i8 a, .int .i8 b, .int .u8 n] ∧ (-128 ≤ a ∧ a ≤ 127) ∧ (-128 ≤ b ∧ b ≤ 127) ∧ (0 ≤ n ∧ n ≤ 255) ∧ x.2 = [] := by
  obtain ⟨y0, y1, m, hx, _, g0, g1⟩ := trod_struct2 Tryd.underlying60 h
  simp only [cells_lsp, cells_u8d] at g0 g1
  obtain ⟨z0, z1, m1, hy0, _, k0, k1⟩ := trod_struct2 Tryd.underlying48 g0
  simp only [cells_i8d] at k0 k1
  match cs, hl with
  | [v0, v1, v2], _ =>
    obtain ⟨a, ea, fa, wa⟩ := DataW.trod_int Tryd.underlying22 (x := z0) k0
    obtain ⟨b, eb, fb, wb⟩ := DataW.trod_int Tryd.underlying22 (x := z1) k1
    obtain ⟨n, en, fn, wn⟩ := DataW.trod_int Tryd.underlying5 (x := y1) g1
    simp at ea eb en
    subst ea eb en
    exact ⟨a, b, n, rfl, dwf8 wa, dwf8 wb, dwfu8 wn, by rw [hx, hy0]; simp [fa, fb, fn]⟩
/-- A DROP THAT CAME IN. -/
theorem open_drop {H : Type} {enc : TypeId × Value → H} {W : World} {r : Reach} {b0 base : Nat} {spare : Nat → Bool} {held : Bool} {v : Value} {d : DataW H} {p : List MemPlace}
    (hv : Value.okWide Tryd.prog W r b0 60 v) (h : DataW.Trod enc Tryd.prog W base spare held 60 v d p) : ∃ x y n : Int, (-128 ≤ x ∧ x ≤ 127) ∧ (-128 ≤ y ∧ y ≤ 127) ∧ (0 ≤ n ∧ n ≤ 255) ∧ v = .agg #[.int .i8 x, .int .i8 y, .int .u8 n] ∧ p = [] := by
  obtain ⟨cs, rfl, hsz⟩ := okWide_struct Tryd.underlying60 hv
  obtain ⟨fuel, hf⟩ := h
  rw [cells_ldr] at hsz
  obtain ⟨a, b, n, hc, ha, hb, hn, hp⟩ := trod_drop (by simpa [Value.cells] using hsz) hf
  refine ⟨a, b, n, ha, hb, hn, ?_, hp⟩
  obtain ⟨cs⟩ := cs
  simp [Value.cells] at hc
  rw [hc]
/-- DROPS THAT CAME IN. -/
theorem open_drops {H : Type} {enc : TypeId × Value → H} {W : World} {r : Reach} {b0 base : Nat} {spare : Nat → Bool} {held : Bool} {v : Value} {d : DataW H} {p : List MemPlace}
    (hv : Value.okWide Tryd.prog W r b0 70 v) (h : DataW.Trod enc Tryd.prog W base spare held 70 v d p) : ∃ (ao : Option Addr) (n cap : Nat) (px py pn : Nat → Int), n ≤ 9223372036854775807 ∧ (∀ i, i < n → -128 ≤ px i ∧ px i ≤ 127) ∧ (∀ i, i < n → -128 ≤ py i ∧ py i ≤ 127) ∧ (∀ i, i < n → 0 ≤ pn i ∧ pn i ≤ 255) ∧ DrsC W ao n px py pn ∧ v = .slice ao n cap ∧ ∀ x ∈ p, x.block < W.heap.size := by
  obtain ⟨a, len, cap, rfl⟩ := okWide_slice Tryd.underlying70 hv
  obtain ⟨fuel, hf⟩ := h
  have hlt := DataW.trod_lt fuel _ _ _ hf
  rcases open_slice Tryd.underlying70 hf with ⟨hc, hx⟩ | ⟨a', len', cap', m, n, D, Pl, hc, hb, hl, hcap, hm, hx, hall⟩
  · simp [Value.cells] at hc
    obtain ⟨rfl, rfl, rfl⟩ := hc
    exact ⟨none, 0, 0, fun _ => 0, fun _ => 0, fun _ => 0, by omega, fun _ h => absurd h (by omega), fun _ h => absurd h (by omega), fun _ h => absurd h (by omega), fun h => absurd h (by omega), rfl, hlt⟩
  · simp [Value.cells] at hc
    obtain ⟨rfl, rfl, rfl⟩ := hc
    have hlm : len ≤ m := by rw [hm]; split <;> omega
    have each : ∀ i, i < len → ∃ q : Int × Int × Int, (-128 ≤ q.1 ∧ q.1 ≤ 127) ∧ (-128 ≤ q.2.1 ∧ q.2.1 ≤ 127) ∧ (0 ≤ q.2.2 ∧ q.2.2 ≤ 255) ∧ W.cell? (a'.add (i * 3)) = some (.int .i8 q.1) ∧ W.cell? (a'.add (i * 3 + 1)) = some (.int .i8 q.2.1) ∧ W.cell? (a'.add (i * 3 + 2)) = some (.int .u8 q.2.2) := fun i hi => by
      obtain ⟨cs', h1, h2⟩ := hall i (by omega)
      rw [cells_ldr] at h1
      obtain ⟨_, hlen, hcell⟩ := World.cells?_some h1
      obtain ⟨x, y, z, rfl, gx, gy, gz, _⟩ := trod_drop hlen h2
      have e0 := hcell 0 (by omega)
      have e1 := hcell 1 (by omega)
      have e2 := hcell 2 (by omega)
      rw [add_add] at e0 e1 e2
      exact ⟨(x, y, z), gx, gy, gz, by simpa using e0, by simpa using e1, by simpa using e2⟩
    obtain ⟨q, hq⟩ := choose_lt each
    refine ⟨some a', len, cap, fun i => (q i).1, fun i => (q i).2.1, fun i => (q i).2.2, Nat.le_trans hl (Nat.le_trans hcap (by decide)), fun i hi => (hq i hi).1, fun i hi => (hq i hi).2.1, fun i hi => (hq i hi).2.2.1, fun hn => ?_, rfl, hlt⟩
    obtain ⟨b, off, spot⟩ := a'
    have h0 := (hq 0 (by omega)).2.2.2.1
    have hbl := World.block_lt_of_cell? W _ h0
    have hsp : spot = none := by
      cases spot with
      | none => rfl
      | some q =>
        exfalso
        simp only [Addr.add, Nat.zero_mul, if_true] at h0
        unfold World.cell? at h0
        split at h0 <;> simp at h0
    subst hsp
    refine ⟨b, off, rfl, by simpa [Addr.add] using hbl, fun i hi => ?_⟩
    have ha : ∀ k, (⟨b, off, none⟩ : Addr).add k = ⟨b, off + k, none⟩ := fun k => by
      unfold Addr.add
      by_cases hk : k = 0
      · rw [if_pos hk, hk]; rfl
      · rw [if_neg hk]
    obtain ⟨_, _, _, c0, c1, c2⟩ := hq i hi
    rw [ha] at c0 c1 c2
    rw [← Nat.add_assoc] at c1 c2
    exact ⟨c0, c1, c2⟩
end Go.Proofs.YtfgcpiipndhllaaDoor
