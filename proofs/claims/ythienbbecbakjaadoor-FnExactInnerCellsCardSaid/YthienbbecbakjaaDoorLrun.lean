import Derived.Deep.RegionHeld3
import Derived.Test.YthienbbecbakjaaDoorG1
import Derived.Test.YthienbbecbakjaaDoorVF
import Derived.Test.YthienbbecbakjaaDoorBeside
import Derived.Test.YthienbbecbakjaaDoorGive
namespace Go.Proofs.YthienbbecbakjaaDoor
open Go.RowKit
set_option maxRecDepth 100000
set_option linter.unusedVariables false
set_option linter.unusedSimpArgs false
set_option linter.unusedSimpArgs false
theorem yields_mid {P : Program} {ops : Array Oper} {S : World → Prop} {o : Oper} {a : Act} (hw : Region.wanted o (yielded ops a.tmps) = true) (ty : TypeId) (x : Operand) (ho : o.op = .load ty x)
    (b off : Nat) (hx : a.eval x = .pointer (some ⟨b, off, none⟩)) (n m : Nat) (f : Nat → Value) (r : Array Value) (hbd : off + m ≤ n) (t : TypeId) (d : TypeDesc) (hu : P.underlying ty = some d) (hd : d.isRow = true) (hi : (P.info? ty).map (·.size) = some m)
    (hr : vrow m (fun i => f (off + i)) = r) (hS : ∀ w, S w → w.heap[b]? = some (.cells (vrow n f) t)) : YieldsIf P ops S o (.agg r) a :=
  .inl ⟨hw, fun w hw' => by
    have hg := hS w hw'
    have hrun := run_loadAt_mid (P := P) w b off ty ((List.range m).map fun i => f (off + i)) d (fun j v hj => by
      have hjm : j < m := by
        by_cases c : j < m
        · exact c
        · rw [List.getElem?_eq_none (by simp; omega)] at hj; cases hj
      rw [cell_row hg (by omega)]
      simp [hjm] at hj; rw [hj]) hu hd (by simpa using hi)
    unfold execOp
    simp only [ho, hx, Sem.run_bind, hrun, Result.andThen_ok, Sem.run_pure]
    rw [← hr]; simp [vrow]⟩
end Go.Proofs.YthienbbecbakjaaDoor
