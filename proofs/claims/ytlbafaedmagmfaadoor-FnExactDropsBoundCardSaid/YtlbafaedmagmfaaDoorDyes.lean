import Derived.Deep.RegionHeld3
import Derived.Test.YtlbafaedmagmfaaDoorDyeIn
import Derived.Test.YtlbafaedmagmfaaDoorG1
namespace Go.Proofs.YtlbafaedmagmfaaDoor
open Go.RowKit
set_option maxRecDepth 100000
set_option linter.unusedVariables false
set_option linter.unusedSimpArgs false
attribute [local go_sem] Oper.semAt_some
theorem res_rowD {P : Program} {fn : Func} {p : Tmp} {ty : TypeId} (hr : fn.results = #[.cell p ty]) (tmps : Array Value) (w : World) (b : Nat) (n : Nat) (f : Nat → Value) (t : TypeId) (d : TypeDesc) (hu : P.underlying ty = some d) (hd : d.isRow = true) (hi : (P.info? ty).map (·.size) = some n)
    (hp : tmps.getD p undef = .pointer (some ⟨b, 0, none⟩)) (hg : w.heap[b]? = some (.cells (vrow n f) t)) : (results fn tmps).run P w = .ok (.agg (vrow n f)) w := by
  have hl := run_loadVar_row (P := P) w b t ty (vrow n f) (0, 0) d hg hu (by cases d <;> first | rfl | exact hd) (by rw [vrow_size]; exact hi)
  have hp1 : tmps[p]?.getD undef = .pointer (some ⟨b, 0, none⟩) := by simpa using hp
  simp [results, hr, hp1, asAddr, hl]
theorem wlAtD (d : Nat) {F : Fence} {n : Nat} {P : Program} {ops : Array Oper} {Q : Exit → Act → World → Prop} {l : List Oper} {o : Oper} {a : Act} {w : World} (_ : o.dst = some d) (h : wpListIn F n P ops Q (o :: l) a w) : wpListIn F n P ops Q (o :: l) a w := h
theorem wlOpD (p : Op) {F : Fence} {n : Nat} {P : Program} {ops : Array Oper} {Q : Exit → Act → World → Prop} {l : List Oper} {o : Oper} {a : Act} {w : World} (_ : o.op = p) (h : wpListIn F n P ops Q (o :: l) a w) : wpListIn F n P ops Q (o :: l) a w := h
end Go.Proofs.YtlbafaedmagmfaaDoor
