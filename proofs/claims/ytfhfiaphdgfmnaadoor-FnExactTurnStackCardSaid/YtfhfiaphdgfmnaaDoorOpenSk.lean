import Derived.Deep.SlicePairs
import Derived.Test.YtfhfiaphdgfmnaaDoorOpen
import Derived.Test.YtfhfiaphdgfmnaaDoorStS
namespace Go.Proofs.YtfhfiaphdgfmnaaDoor
open Go.RowKit
set_option maxRecDepth 100000
set_option linter.unusedVariables false
set_option linter.unusedSimpArgs false
open Go.ChangeShapes Go.WideShapes Go.ChangeAt Go.Deep
instance : Inhabited Sh := ⟨Sh.zero⟩
theorem zero_wf : Sh.zero.wf := ⟨(by decide : (Lit.int .i8 0).wf = true), (by decide : (Lit.int .i8 0).wf = true), fun _ _ => (by decide : (Lit.int .i16 0).wf = true), fun _ _ => (by decide : (Lit.int .i16 0).wf = true), fun _ _ => (by decide : (Lit.int .u8 0).wf = true)⟩
theorem cells_lsh : Tryd.prog.cellsOf 32 = 266 := by kernel_rfl
/-- 266 cells that read as a sheet -/
theorem trod_sheet {H : Type} {enc : TypeId × Value → H} {W : World} {base : Nat} {spare : Nat → Bool} {held : Bool} {fuel : Nat} {cs : Array Value} {x : DataW H × List MemPlace}
    (hsz : cs.size = 266) (hf : DataW.trod enc Tryd.prog W base spare held fuel 32 cs.toList = some x) : ∃ s : Sh, s.wf ∧ cs = s.row := by
  obtain ⟨xs, n, rfl, hx, hl, hxl, hall⟩ := DataW.trod_struct Tryd.underlying32 hf
  have key : ∀ (j off N : Nat) (kd : IntKind) (t : TypeId) (y : DataW H × List MemPlace), xs[j]? = some y → DataW.trod enc Tryd.prog W base spare held n t ((cs.toList.drop off).take N) = some y → Ints Tryd.prog kd N t → y.2 = [] ∧ ∀ i, i < N → ∃ z, cs[off + i]? = some (.int kd z) ∧ (Lit.int kd z).wf = true := by
    intro j off N kd t y _ hy hI
    obtain ⟨e1, _, e3⟩ := hI H enc W base spare held n _ _ hy
    refine ⟨e1, fun i hi => ?_⟩
    obtain ⟨z, hz, hw⟩ := e3 i hi
    rw [List.getElem?_take_of_lt hi, List.getElem?_drop] at hz
    exact ⟨z, by simpa using hz, hw⟩
  have a0 := hall 0 _ rfl
  have a1 := hall 1 _ rfl
  have a2 := hall 2 _ rfl
  have a3 := hall 3 _ rfl
  have a4 := hall 4 _ rfl
  have hxl5 : xs.length = 5 := hxl
  have get : ∀ j, j < 5 → ∃ y, xs[j]? = some y := fun j hj => ⟨_, List.getElem?_eq_getElem (by omega)⟩
  obtain ⟨y0, h0⟩ := get 0 (by omega)
  obtain ⟨y1, h1⟩ := get 1 (by omega)
  obtain ⟨y2, h2⟩ := get 2 (by omega)
  obtain ⟨y3, h3⟩ := get 3 (by omega)
  obtain ⟨y4, h4⟩ := get 4 (by omega)
  rw [h0] at a0; rw [h1] at a1; rw [h2] at a2; rw [h3] at a3; rw [h4] at a4
  have k0 := key 0 0 1 .i8 _ y0 h0 (by simpa [c22, Value.cells] using a0) (Ints.one Tryd.underlying23)
  have k1 := key 1 1 1 .i8 _ y1 h1 (by simpa [c22, Value.cells] using a1) (Ints.one Tryd.underlying23)
  have k2 := key 2 2 64 .i16 _ y2 h2 (by simpa [show Tryd.prog.cellsOf 26 = 64 by kernel_rfl, Value.cells] using a2) ints_r64
  have k3 := key 3 66 192 .i16 _ y3 h3 (by simpa [show Tryd.prog.cellsOf 29 = 192 by kernel_rfl, Value.cells] using a3) ints_d192
  have k4 := key 4 258 8 .u8 _ y4 h4 (by simpa [show Tryd.prog.cellsOf 30 = 8 by kernel_rfl, Value.cells] using a4) ints_x8
  have num : ∀ i, ∀ {kd : IntKind} {z : Int}, cs[i]? = some (.int kd z) → cs.getD i undef = .int kd z := fun i kd z h => by simp [Array.getD_eq_getD_getElem?, h]
  refine ⟨⟨intOf (cs.getD 0 undef), intOf (cs.getD 1 undef), fun i => intOf (cs.getD (2 + i) undef), fun i => intOf (cs.getD (66 + i) undef), fun i => intOf (cs.getD (258 + i) undef)⟩, ⟨?_, ?_, ?_, ?_, ?_⟩, ?_⟩
  · obtain ⟨z, hz, hw⟩ := k0.2 0 (by omega); rw [num 0 hz]; exact hw
  · obtain ⟨z, hz, hw⟩ := k1.2 0 (by omega); rw [num 1 hz]; exact hw
  · intro i hi; obtain ⟨z, hz, hw⟩ := k2.2 i hi; show (Lit.int .i16 (intOf (cs.getD (2 + i) undef))).wf = true; rw [num _ hz]; exact hw
  · intro i hi; obtain ⟨z, hz, hw⟩ := k3.2 i hi; show (Lit.int .i16 (intOf (cs.getD (66 + i) undef))).wf = true; rw [num _ hz]; exact hw
  · intro i hi; obtain ⟨z, hz, hw⟩ := k4.2 i hi; show (Lit.int .u8 (intOf (cs.getD (258 + i) undef))).wf = true; rw [num _ hz]; exact hw
  · apply Array.ext_getElem?
    intro i
    by_cases hi : i < 266
    · rw [vrow_get _ _ _ hi]
      unfold Sh.at
      by_cases c0 : i = 0
      · subst c0; obtain ⟨z, hz, _⟩ := k0.2 0 (by omega); rw [if_pos rfl, num 0 hz]; exact hz
      · rw [if_neg c0]
        by_cases c1 : i = 1
        · subst c1; obtain ⟨z, hz, _⟩ := k1.2 0 (by omega); rw [if_pos rfl, num 1 hz]; exact hz
        · rw [if_neg c1]
          by_cases c2 : i < 66
          · obtain ⟨z, hz, _⟩ := k2.2 (i - 2) (by omega)
            rw [show 2 + (i - 2) = i by omega] at hz
            rw [if_pos c2]; dsimp only; rw [show 2 + (i - 2) = i by omega, num i hz]; exact hz
          · rw [if_neg c2]
            by_cases c3 : i < 258
            · obtain ⟨z, hz, _⟩ := k3.2 (i - 66) (by omega)
              rw [show 66 + (i - 66) = i by omega] at hz
              rw [if_pos c3]; dsimp only; rw [show 66 + (i - 66) = i by omega, num i hz]; exact hz
            · obtain ⟨z, hz, _⟩ := k4.2 (i - 258) (by omega)
              rw [show 258 + (i - 258) = i by omega] at hz
              rw [if_neg c3]; dsimp only; rw [show 258 + (i - 258) = i by omega, num i hz]; exact hz
    · rw [vrow_none _ _ _ hi]; exact Array.getElem?_eq_none (by omega)
/-- A STACK THAT CAME IN. -/
theorem open_stack {H : Type} {enc : TypeId × Value → H} {W : World} {r : Reach} {b0 base : Nat} {spare : Nat → Bool} {held : Bool} {v : Value} {d : DataW H} {p : List MemPlace}
    (hv : Value.okWide Tryd.prog W r b0 22 v) (h : DataW.Trod enc Tryd.prog W base spare held 22 v d p) : ∃ (ao : Option Addr) (n cap : Nat) (ss : Nat → Sh), n ≤ 9223372036854775807 ∧ (∀ i, (ss i).wf) ∧ StC W ao n ss ∧ v = .slice ao n cap ∧ ∀ x ∈ p, x.block < W.heap.size := by
  obtain ⟨a, len, cap, rfl⟩ := okWide_slice Tryd.underlying22 hv
  obtain ⟨fuel, hf⟩ := h
  have hlt := DataW.trod_lt fuel _ _ _ hf
  rcases open_slice Tryd.underlying22 hf with ⟨hc, hx⟩ | ⟨a', len', cap', m, n, D, Pl, hc, hb, hl, hcap, hm, hx, hall⟩
  · simp [Value.cells] at hc
    obtain ⟨rfl, rfl, rfl⟩ := hc
    exact ⟨none, 0, 0, fun _ => Sh.zero, by omega, fun _ => zero_wf, fun h => absurd h (by omega), rfl, hlt⟩
  · simp [Value.cells] at hc
    obtain ⟨rfl, rfl, rfl⟩ := hc
    have hlm : len ≤ m := by rw [hm]; split <;> omega
    have each : ∀ i, i < len → ∃ q : Sh, q.wf ∧ ∀ j, j < 266 → W.cell? ((a'.add (i * 266)).add j) = some (q.at j) := fun i hi => by
      obtain ⟨cs', h1, h2⟩ := hall i (by omega)
      rw [cells_lsh] at h1
      obtain ⟨_, hlen, hcell⟩ := World.cells?_some h1
      obtain ⟨s, hs, he⟩ := trod_sheet (cs := cs'.toArray) (by simpa using hlen) h2
      refine ⟨s, hs, fun j hj => ?_⟩
      rw [hcell j hj]
      have := congrArg (fun z : Array Value => z[j]?) he
      simp only [List.getElem?_toArray] at this
      rw [this]
      exact vrow_get _ _ _ hj
    obtain ⟨q, hq⟩ := choose_lt each
    refine ⟨some a', len, cap, fun i => if i < len then q i else Sh.zero, Nat.le_trans hl (Nat.le_trans hcap (by decide)), fun i => ?_, fun hn => ?_, rfl, hlt⟩
    · show Sh.wf (if i < len then q i else Sh.zero)
      split
      · rename_i hi; exact (hq i hi).1
      · exact zero_wf
    obtain ⟨b, off, spot⟩ := a'
    have h0 := (hq 0 (by omega)).2 0 (by omega)
    have hbl := World.block_lt_of_cell? W _ h0
    have hsp : spot = none := by
      cases spot with
      | none => rfl
      | some q =>
        exfalso
        simp only [Addr.add, Nat.zero_mul, if_true] at h0
        unfold World.cell? at h0
        split at h0 <;> simp at h0
    subst hsp
    have ha : ∀ o k, (⟨b, o, none⟩ : Addr).add k = ⟨b, o + k, none⟩ := fun o k => by
      unfold Addr.add
      by_cases hk : k = 0
      · rw [if_pos hk, hk]; rfl
      · rw [if_neg hk]
    refine ⟨b, off, rfl, by simpa [Addr.add] using hbl, fun i hi j hj => ?_⟩
    have e := (hq i hi).2 j hj
    rw [ha, ha] at e
    show _ = some ((if i < len then q i else Sh.zero).at j)
    rw [if_pos hi]
    exact e
end Go.Proofs.YtfhfiaphdgfmnaaDoor
