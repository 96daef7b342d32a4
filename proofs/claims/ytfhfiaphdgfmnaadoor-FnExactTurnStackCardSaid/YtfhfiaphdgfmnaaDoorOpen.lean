import Derived.Test.YtfhfiaphdgfmnaaDoorG1
import Derived.ProofKit
import Derived.OpenShut
import Derived.Carry
namespace Go.Proofs.YtfhfiaphdgfmnaaDoor
open Go.ChangeShapes Go.WideShapes Go.ChangeAt Go.RowKit
set_option maxRecDepth 100000
/-- A type of N integer cells of one kind, as the reader reads it. -/
def Ints (P : Program) (kd : IntKind) (N : Nat) (t : TypeId) : Prop :=
  ∀ (H : Type) (enc : TypeId × Value → H) (w : World) (base : Nat) (spare : Nat → Bool) (held : Bool) (fuel : Nat) (cs : List Value) (x : DataW H × List MemPlace),
    DataW.trod enc P w base spare held fuel t cs = some x → x.2 = [] ∧ cs.length = N ∧ ∀ i, i < N → ∃ n, cs[i]? = some (.int kd n) ∧ (Lit.int kd n).wf = true
theorem Ints.one {P : Program} {kd : IntKind} {t : TypeId} (h : P.underlying t = some (.int kd)) : Ints P kd 1 t := by
  intro H enc w base spare held fuel cs x hx
  obtain ⟨n, rfl, rfl, hw⟩ := DataW.trod_int h hx
  refine ⟨rfl, rfl, fun i hi => ⟨n, ?_, hw⟩⟩
  obtain rfl : i = 0 := by omega
  rfl
theorem Ints.array {P : Program} {kd : IntKind} {t e : TypeId} {n M : Nat} (ht : P.underlying t = some (.array n e)) (he : P.cellsOf e = M) (hc : P.cellsOf t = n * M) (hM : 0 < M) (h : Ints P kd M e) : Ints P kd (n * M) t := by
  intro H enc w base spare held fuel cs x hx
  obtain ⟨xs, m, rfl, rfl, hl, hxl, hall⟩ := DataW.trod_array ht hx
  rw [he] at hall
  rw [hc] at hl
  have key : ∀ q, q < n → ∃ y, xs[q]? = some y ∧ y.2 = [] ∧ ∀ r, r < M → ∃ z, cs[q * M + r]? = some (.int kd z) ∧ (Lit.int kd z).wf = true := by
    intro q hq
    have h1 := hall q hq
    have h2 : xs[q]? = some xs[q] := List.getElem?_eq_getElem (by omega)
    rw [h2] at h1
    obtain ⟨e1, _, e3⟩ := h H enc w base spare held m _ _ h1
    refine ⟨_, h2, e1, fun r hr => ?_⟩
    obtain ⟨z, hz, hw⟩ := e3 r hr
    rw [List.getElem?_take_of_lt hr, List.getElem?_drop] at hz
    exact ⟨z, hz, hw⟩
  refine ⟨?_, hl, fun i hi => ?_⟩
  · show xs.flatMap (·.2) = []
    rw [List.flatMap_eq_nil_iff]
    intro y hy
    obtain ⟨q, hq, rfl⟩ := List.mem_iff_getElem.1 hy
    obtain ⟨y', hy', e, _⟩ := key q (by omega)
    rw [List.getElem?_eq_getElem hq] at hy'
    rw [Option.some.inj hy']; exact e
  · have hq : i / M < n := Nat.div_lt_of_lt_mul (by rw [Nat.mul_comm]; exact hi)
    obtain ⟨_, _, _, h3⟩ := key (i / M) hq
    have := h3 (i % M) (Nat.mod_lt _ hM)
    rwa [Nat.div_add_mod' i M] at this
/-- The numbers of a sheet fit their kinds. -/
def Sh.wf (s : Sh) : Prop := (Lit.int .i8 s.wide).wf = true ∧ (Lit.int .i8 s.high).wf = true ∧ (∀ i, i < 64 → (Lit.int .i16 (s.wet i)).wf = true) ∧ (∀ i, i < 192 → (Lit.int .i16 (s.dye i)).wf = true) ∧ (∀ i, i < 8 → (Lit.int .u8 (s.wax i)).wf = true)
theorem c22 : Tryd.prog.cellsOf 23 = 1 := by kernel_rfl
theorem c23 : Tryd.prog.cellsOf 24 = 1 := by kernel_rfl
theorem c5 : Tryd.prog.cellsOf 5 = 1 := by kernel_rfl
theorem ints_d3 : Ints Tryd.prog .i16 3 27 := Ints.array Tryd.underlying27 c23 (by kernel_rfl) (by omega) (Ints.one Tryd.underlying24)
theorem ints_r8 : Ints Tryd.prog .i16 8 25 := Ints.array Tryd.underlying25 c23 (by kernel_rfl) (by omega) (Ints.one Tryd.underlying24)
theorem ints_x8 : Ints Tryd.prog .u8 8 30 := Ints.array Tryd.underlying30 c5 (by kernel_rfl) (by omega) (Ints.one Tryd.underlying5)
theorem ints_r64 : Ints Tryd.prog .i16 64 26 := Ints.array Tryd.underlying26 (M := 8) (by kernel_rfl) (by kernel_rfl) (by omega) ints_r8
theorem ints_d24 : Ints Tryd.prog .i16 24 28 := Ints.array Tryd.underlying28 (M := 3) (by kernel_rfl) (by kernel_rfl) (by omega) ints_d3
theorem ints_d192 : Ints Tryd.prog .i16 192 29 := Ints.array Tryd.underlying29 (M := 24) (by kernel_rfl) (by kernel_rfl) (by omega) ints_d24
/-- A SHEET THAT CAME IN. -/
theorem open_sheet {H : Type} {enc : TypeId × Value → H} {W : World} {r : Reach} {b0 base : Nat} {spare : Nat → Bool} {held : Bool} {v : Value} {d : DataW H} {p : List MemPlace}
    (hv : Value.okWide Tryd.prog W r b0 32 v) (h : DataW.Trod enc Tryd.prog W base spare held 32 v d p) : ∃ s : Sh, s.wf ∧ v = .agg s.row ∧ p = [] := by
  obtain ⟨cs, rfl, hsz⟩ := okWide_struct Tryd.underlying32 hv
  obtain ⟨fuel, hf⟩ := h
  obtain ⟨xs, n, rfl, hx, hl, hxl, hall⟩ := DataW.trod_struct Tryd.underlying32 hf
  have hC : Tryd.prog.cellsOf 32 = 266 := by kernel_rfl
  rw [hC] at hsz
  have key : ∀ (j off N : Nat) (kd : IntKind) (t : TypeId) (y : DataW H × List MemPlace), xs[j]? = some y → DataW.trod enc Tryd.prog W base spare held n t ((cs.toList.drop off).take N) = some y → Ints Tryd.prog kd N t → y.2 = [] ∧ ∀ i, i < N → ∃ z, cs[off + i]? = some (.int kd z) ∧ (Lit.int kd z).wf = true := by
    intro j off N kd t y _ hy hI
    obtain ⟨e1, _, e3⟩ := hI H enc W base spare held n _ _ hy
    refine ⟨e1, fun i hi => ?_⟩
    obtain ⟨z, hz, hw⟩ := e3 i hi
    rw [List.getElem?_take_of_lt hi, List.getElem?_drop] at hz
    exact ⟨z, by simpa using hz, hw⟩
  have a0 := hall 0 _ rfl
  have a1 := hall 1 _ rfl
  have a2 := hall 2 _ rfl
  have a3 := hall 3 _ rfl
  have a4 := hall 4 _ rfl
  have hxl5 : xs.length = 5 := hxl
  have get : ∀ j, j < 5 → ∃ y, xs[j]? = some y := fun j hj => ⟨_, List.getElem?_eq_getElem (by omega)⟩
  obtain ⟨y0, h0⟩ := get 0 (by omega)
  obtain ⟨y1, h1⟩ := get 1 (by omega)
  obtain ⟨y2, h2⟩ := get 2 (by omega)
  obtain ⟨y3, h3⟩ := get 3 (by omega)
  obtain ⟨y4, h4⟩ := get 4 (by omega)
  rw [h0] at a0; rw [h1] at a1; rw [h2] at a2; rw [h3] at a3; rw [h4] at a4
  have k0 := key 0 0 1 .i8 _ y0 h0 (by simpa [c22, Value.cells] using a0) (Ints.one Tryd.underlying23)
  have k1 := key 1 1 1 .i8 _ y1 h1 (by simpa [c22, Value.cells] using a1) (Ints.one Tryd.underlying23)
  have k2 := key 2 2 64 .i16 _ y2 h2 (by simpa [show Tryd.prog.cellsOf 26 = 64 by kernel_rfl, Value.cells] using a2) ints_r64
  have k3 := key 3 66 192 .i16 _ y3 h3 (by simpa [show Tryd.prog.cellsOf 29 = 192 by kernel_rfl, Value.cells] using a3) ints_d192
  have k4 := key 4 258 8 .u8 _ y4 h4 (by simpa [show Tryd.prog.cellsOf 30 = 8 by kernel_rfl, Value.cells] using a4) ints_x8
  have num : ∀ i, ∀ {kd : IntKind} {z : Int}, cs[i]? = some (.int kd z) → cs.getD i undef = .int kd z := fun i kd z h => by simp [Array.getD_eq_getD_getElem?, h]
  refine ⟨⟨intOf (cs.getD 0 undef), intOf (cs.getD 1 undef), fun i => intOf (cs.getD (2 + i) undef), fun i => intOf (cs.getD (66 + i) undef), fun i => intOf (cs.getD (258 + i) undef)⟩, ⟨?_, ?_, ?_, ?_, ?_⟩, ?_, ?_⟩
  · obtain ⟨z, hz, hw⟩ := k0.2 0 (by omega); rw [num 0 hz]; exact hw
  · obtain ⟨z, hz, hw⟩ := k1.2 0 (by omega); rw [num 1 hz]; exact hw
  · intro i hi; obtain ⟨z, hz, hw⟩ := k2.2 i hi; show (Lit.int .i16 (intOf (cs.getD (2 + i) undef))).wf = true; rw [num _ hz]; exact hw
  · intro i hi; obtain ⟨z, hz, hw⟩ := k3.2 i hi; show (Lit.int .i16 (intOf (cs.getD (66 + i) undef))).wf = true; rw [num _ hz]; exact hw
  · intro i hi; obtain ⟨z, hz, hw⟩ := k4.2 i hi; show (Lit.int .u8 (intOf (cs.getD (258 + i) undef))).wf = true; rw [num _ hz]; exact hw
  · congr 1
    apply Array.ext_getElem?
    intro i
    by_cases hi : i < 266
    · rw [vrow_get _ _ _ hi]
      unfold Sh.at
      by_cases c0 : i = 0
      · subst c0; obtain ⟨z, hz, _⟩ := k0.2 0 (by omega); rw [if_pos rfl, num 0 hz]; exact hz
      · rw [if_neg c0]
        by_cases c1 : i = 1
        · subst c1; obtain ⟨z, hz, _⟩ := k1.2 0 (by omega); rw [if_pos rfl, num 1 hz]; exact hz
        · rw [if_neg c1]
          by_cases c2 : i < 66
          · obtain ⟨z, hz, _⟩ := k2.2 (i - 2) (by omega)
            rw [show 2 + (i - 2) = i by omega] at hz
            rw [if_pos c2]; dsimp only; rw [show 2 + (i - 2) = i by omega, num i hz]; exact hz
          · rw [if_neg c2]
            by_cases c3 : i < 258
            · obtain ⟨z, hz, _⟩ := k3.2 (i - 66) (by omega)
              rw [show 66 + (i - 66) = i by omega] at hz
              rw [if_pos c3]; dsimp only; rw [show 66 + (i - 66) = i by omega, num i hz]; exact hz
            · obtain ⟨z, hz, _⟩ := k4.2 (i - 258) (by omega)
              rw [show 258 + (i - 258) = i by omega] at hz
              rw [if_neg c3]; dsimp only; rw [show 258 + (i - 258) = i by omega, num i hz]; exact hz
    · rw [vrow_none _ _ _ hi]; exact Array.getElem?_eq_none (by omega)
  · simp only [Prod.mk.injEq] at hx
    rw [hx.2]
    match xs, hxl5, h0, h1, h2, h3, h4 with
    | [z0, z1, z2, z3, z4], _, h0, h1, h2, h3, h4 =>
      simp at h0 h1 h2 h3 h4
      subst h0 h1 h2 h3 h4
      simp [k0.1, k1.1, k2.1, k3.1, k4.1]
end Go.Proofs.YtfhfiaphdgfmnaaDoor
