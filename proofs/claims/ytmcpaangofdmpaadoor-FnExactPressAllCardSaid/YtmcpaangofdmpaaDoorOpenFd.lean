import Derived.Deep.SlicePairs
import Derived.Test.YtmcpaangofdmpaaDoorOpen
import Derived.Test.YtmcpaangofdmpaaDoorFdS
import Derived.Test.YtmcpaangofdmpaaDoorFold
namespace Go.Proofs.YtmcpaangofdmpaaDoor
open Go.RowKit
set_option maxRecDepth 100000
set_option linter.unusedVariables false
set_option linter.unusedSimpArgs false
open Go.ChangeShapes Go.WideShapes Go.ChangeAt Go.Deep
theorem dwf8 {n : Int} (h : (Lit.int .i8 n).wf = true) : -128 ≤ n ∧ n ≤ 127 := by simp [Lit.wf, IntKind.min, IntKind.max, IntKind.bits, IntKind.signed] at h; omega
theorem cells_lfo : Tryd.prog.cellsOf 33 = 3 := by kernel_rfl
/-- three cells that read as a fold -/
theorem trod_fold {H : Type} {enc : TypeId × Value → H} {W : World} {base : Nat} {spare : Nat → Bool} {held : Bool} {fuel : Nat} {cs : List Value} {x : DataW H × List MemPlace}
    (hl : cs.length = 3) (h : DataW.trod enc Tryd.prog W base spare held fuel 33 cs = some x) : ∃ (a : Int) (b : Bool) (n : Int), cs = [.int .i8 a, .bool b, .int .i8 n] ∧ (-128 ≤ a ∧ a ≤ 127) ∧ (-128 ≤ n ∧ n ≤ 127) := by
  obtain ⟨xs, n, rfl, hx, _, hxl, hall⟩ := DataW.trod_struct Tryd.underlying33 h
  have a0 := hall 0 _ rfl
  have a1 := hall 1 _ rfl
  have a2 := hall 2 _ rfl
  have hxl3 : xs.length = 3 := hxl
  match xs, hxl3 with
  | [z0, z1, z2], _ =>
    match cs, hl with
    | [v0, v1, v2], _ =>
      obtain ⟨m0, e0, f0, w0⟩ := DataW.trod_int Tryd.underlying22 (x := z0) a0
      obtain ⟨m1, e1, f1⟩ := DataW.trod_bool Tryd.underlying4 (x := z1) a1
      obtain ⟨m2, e2, f2, w2⟩ := DataW.trod_int Tryd.underlying22 (x := z2) a2
      simp [c22, c_bool] at e0 e1 e2
      subst e0 e1 e2
      exact ⟨m0, m1, m2, rfl, dwf8 w0, dwf8 w2⟩
/-- FOLDS THAT CAME IN. -/
theorem open_folds {H : Type} {enc : TypeId × Value → H} {W : World} {r : Reach} {b0 base : Nat} {spare : Nat → Bool} {held : Bool} {v : Value} {d : DataW H} {p : List MemPlace}
    (hv : Value.okWide Tryd.prog W r b0 42 v) (h : DataW.Trod enc Tryd.prog W base spare held 42 v d p) : ∃ (ao : Option Addr) (n cap : Nat) (px : Nat → Int) (py : Nat → Bool) (pn : Nat → Int), n ≤ 9223372036854775807 ∧ (∀ i, i < n → -128 ≤ px i ∧ px i ≤ 127) ∧ (∀ i, i < n → -128 ≤ pn i ∧ pn i ≤ 127) ∧ FdsC W ao n px py pn ∧ v = .slice ao n cap ∧ ∀ x ∈ p, x.block < W.heap.size := by
  obtain ⟨a, len, cap, rfl⟩ := okWide_slice Tryd.underlying42 hv
  obtain ⟨fuel, hf⟩ := h
  have hlt := DataW.trod_lt fuel _ _ _ hf
  rcases open_slice Tryd.underlying42 hf with ⟨hc, hx⟩ | ⟨a', len', cap', m, n, D, Pl, hc, hb, hl, hcap, hm, hx, hall⟩
  · simp [Value.cells] at hc
    obtain ⟨rfl, rfl, rfl⟩ := hc
    exact ⟨none, 0, 0, fun _ => 0, fun _ => false, fun _ => 0, by omega, fun _ h => absurd h (by omega), fun _ h => absurd h (by omega), fun h => absurd h (by omega), rfl, hlt⟩
  · simp [Value.cells] at hc
    obtain ⟨rfl, rfl, rfl⟩ := hc
    have hlm : len ≤ m := by rw [hm]; split <;> omega
    have each : ∀ i, i < len → ∃ q : Int × Bool × Int, (-128 ≤ q.1 ∧ q.1 ≤ 127) ∧ (-128 ≤ q.2.2 ∧ q.2.2 ≤ 127) ∧ W.cell? (a'.add (i * 3)) = some (.int .i8 q.1) ∧ W.cell? (a'.add (i * 3 + 1)) = some (.bool q.2.1) ∧ W.cell? (a'.add (i * 3 + 2)) = some (.int .i8 q.2.2) := fun i hi => by
      obtain ⟨cs', h1, h2⟩ := hall i (by omega)
      rw [cells_lfo] at h1
      obtain ⟨_, hlen, hcell⟩ := World.cells?_some h1
      obtain ⟨x, y, z, rfl, gx, gz⟩ := trod_fold hlen h2
      have e0 := hcell 0 (by omega)
      have e1 := hcell 1 (by omega)
      have e2 := hcell 2 (by omega)
      rw [add_add] at e0 e1 e2
      exact ⟨(x, y, z), gx, gz, by simpa using e0, by simpa using e1, by simpa using e2⟩
    obtain ⟨q, hq⟩ := choose_lt each
    refine ⟨some a', len, cap, fun i => (q i).1, fun i => (q i).2.1, fun i => (q i).2.2, Nat.le_trans hl (Nat.le_trans hcap (by decide)), fun i hi => (hq i hi).1, fun i hi => (hq i hi).2.1, fun hn => ?_, rfl, hlt⟩
    obtain ⟨b, off, spot⟩ := a'
    have h0 := (hq 0 (by omega)).2.2.1
    have hbl := World.block_lt_of_cell? W _ h0
    have hsp : spot = none := by
      cases spot with
      | none => rfl
      | some q =>
        exfalso
        simp only [Addr.add, Nat.zero_mul, if_true] at h0
        unfold World.cell? at h0
        split at h0 <;> simp at h0
    subst hsp
    refine ⟨b, off, rfl, by simpa [Addr.add] using hbl, fun i hi => ?_⟩
    have ha : ∀ k, (⟨b, off, none⟩ : Addr).add k = ⟨b, off + k, none⟩ := fun k => by
      unfold Addr.add
      by_cases hk : k = 0
      · rw [if_pos hk, hk]; rfl
      · rw [if_neg hk]
    obtain ⟨_, _, c0, c1, c2⟩ := hq i hi
    rw [ha] at c0 c1 c2
    rw [← Nat.add_assoc] at c1 c2
    exact ⟨c0, c1, c2⟩
end Go.Proofs.YtmcpaangofdmpaaDoor
