import Derived.Test.YtdigbikldkkhpaaG1
import Derived.ProofKit
import Derived.OpenShut
import Derived.Carry
namespace Go.Proofs.Ytdigbikldkkhpaa
open Go.ChangeShapes Go.WideShapes Go.ChangeAt Go.RowKit
set_option maxRecDepth 100000
/-- A type of N integer cells of one kind, as the reader reads it. -/
def Ints (P : Program) (kd : IntKind) (N : Nat) (t : TypeId) : Prop :=
  ∀ (H : Type) (enc : TypeId × Value → H) (w : World) (base : Nat) (spare : Nat → Bool) (held : Bool) (fuel : Nat) (cs : List Value) (x : DataW H × List MemPlace),
    DataW.trod enc P w base spare held fuel t cs = some x → x.2 = [] ∧ cs.length = N ∧ ∀ i, i < N → ∃ n, cs[i]? = some (.int kd n) ∧ (Lit.int kd n).wf = true
theorem Ints.one {P : Program} {kd : IntKind} {t : TypeId} (h : P.underlying t = some (.int kd)) : Ints P kd 1 t := by
  intro H enc w base spare held fuel cs x hx
  obtain ⟨n, rfl, rfl, hw⟩ := DataW.trod_int h hx
  refine ⟨rfl, rfl, fun i hi => ⟨n, ?_, hw⟩⟩
  obtain rfl : i = 0 := by omega
  rfl
theorem Ints.array {P : Program} {kd : IntKind} {t e : TypeId} {n M : Nat} (ht : P.underlying t = some (.array n e)) (he : P.cellsOf e = M) (hc : P.cellsOf t = n * M) (hM : 0 < M) (h : Ints P kd M e) : Ints P kd (n * M) t := by
  intro H enc w base spare held fuel cs x hx
  obtain ⟨xs, m, rfl, rfl, hl, hxl, hall⟩ := DataW.trod_array ht hx
  rw [he] at hall
  rw [hc] at hl
  have key : ∀ q, q < n → ∃ y, xs[q]? = some y ∧ y.2 = [] ∧ ∀ r, r < M → ∃ z, cs[q * M + r]? = some (.int kd z) ∧ (Lit.int kd z).wf = true := by
    intro q hq
    have h1 := hall q hq
    have h2 : xs[q]? = some xs[q] := List.getElem?_eq_getElem (by omega)
    rw [h2] at h1
    obtain ⟨e1, _, e3⟩ := h H enc w base spare held m _ _ h1
    refine ⟨_, h2, e1, fun r hr => ?_⟩
    obtain ⟨z, hz, hw⟩ := e3 r hr
    rw [List.getElem?_take_of_lt hr, List.getElem?_drop] at hz
    exact ⟨z, hz, hw⟩
  refine ⟨?_, hl, fun i hi => ?_⟩
  · show xs.flatMap (·.2) = []
    rw [List.flatMap_eq_nil_iff]
    intro y hy
    obtain ⟨q, hq, rfl⟩ := List.mem_iff_getElem.1 hy
    obtain ⟨y', hy', e, _⟩ := key q (by omega)
    rw [List.getElem?_eq_getElem hq] at hy'
    rw [Option.some.inj hy']; exact e
  · have hq : i / M < n := Nat.div_lt_of_lt_mul (by rw [Nat.mul_comm]; exact hi)
    obtain ⟨_, _, _, h3⟩ := key (i / M) hq
    have := h3 (i % M) (Nat.mod_lt _ hM)
    rwa [Nat.div_add_mod' i M] at this
/-- The numbers of a sheet fit their kinds. -/
def Sh.wf (s : Sh) : Prop := (Lit.int .i8 s.wide).wf = true ∧ (Lit.int .i8 s.high).wf = true ∧ (∀ i, i < 64 → (Lit.int .i16 (s.wet i)).wf = true) ∧ (∀ i, i < 192 → (Lit.int .i16 (s.dye i)).wf = true) ∧ (∀ i, i < 8 → (Lit.int .u8 (s.wax i)).wf = true)
theorem c22 : Try.prog.cellsOf 24 = 1 := by kernel_rfl
theorem c5 : Try.prog.cellsOf 5 = 1 := by kernel_rfl
theorem ints_x8 : Ints Try.prog .u8 8 22 := Ints.array Try.underlying22 c5 (by kernel_rfl) (by omega) (Ints.one Try.underlying5)
end Go.Proofs.Ytdigbikldkkhpaa
