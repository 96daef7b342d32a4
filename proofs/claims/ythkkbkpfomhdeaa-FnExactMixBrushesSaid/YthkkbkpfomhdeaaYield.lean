import Derived.Deep.RegionHeld3
import Derived.Test.YthkkbkpfomhdeaaXLib
namespace Go.Proofs.Ythkkbkpfomhdeaa
open Go.RowKit
set_option maxRecDepth 100000
set_option linter.unusedVariables false
theorem yields_row {P : Program} {ops : Array Oper} {S : World → Prop} {o : Oper} {a : Act} (hw : Region.wanted o (yielded ops a.tmps) = true) (ty : TypeId) (x : Operand) (ho : o.op = .load ty x)
    (b : Nat) (hx : a.eval x = .pointer (some ⟨b, 0, none⟩)) (n : Nat) (f : Nat → Value) (t : TypeId) (d : TypeDesc) (hu : P.underlying ty = some d) (hd : d.isRow = true) (hi : (P.info? ty).map (·.size) = some n)
    (hS : ∀ w, S w → w.heap[b]? = some (.cells (vrow n f) t)) : YieldsIf P ops S o (.agg (vrow n f)) a :=
  .inl ⟨hw, fun w hw' => by
    have hg := hS w hw'
    have hr := run_loadAt_mid (P := P) w b 0 ty ((List.range n).map fun i => f (0 + i)) d (fun j v hj => by
      have hjm : j < n := by
        by_cases c : j < n
        · exact c
        · rw [List.getElem?_eq_none (by simp; omega)] at hj; cases hj
      rw [cell_row hg (by omega)]
      simp [hjm] at hj; rw [Nat.zero_add, hj]) hu hd (by simpa using hi)
    unfold execOp
    simp only [ho, hx, Sem.run_bind, hr, Result.andThen_ok, Sem.run_pure]
    simp [vrow]⟩
theorem yields_one {P : Program} {ops : Array Oper} {S : World → Prop} {o : Oper} {a : Act} (hw : Region.wanted o (yielded ops a.tmps) = true) (ty : TypeId) (x : Operand) (ho : o.op = .load ty x)
    (b off : Nat) (hx : a.eval x = .pointer (some ⟨b, off, none⟩)) (n : Nat) (f : Nat → Value) (t : TypeId) (d : TypeDesc) (hu : P.underlying ty = some d) (hd : d.isRow = false) (hb : off < n)
    (hS : ∀ w, S w → w.heap[b]? = some (.cells (vrow n f) t)) : YieldsIf P ops S o (f off) a :=
  .inl ⟨hw, fun w hw' => by
    have hc := cell_row (hS w hw') hb
    unfold execOp
    simp only [ho, hx, Instr.loadAt, Instr.sureAddr, Sem.run_bind, Sem.run_pure, Result.andThen_ok, loadVar, run_isAgg_row w ty d hu, hd, Bool.false_eq_true, if_false, run_load, hc]⟩
end Go.Proofs.Ythkkbkpfomhdeaa
