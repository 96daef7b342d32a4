import Derived.Test.YtjjobkkcmijdlaaDoorXLib2
import Derived.Test.YtjjobkkcmijdlaaDoorQ
namespace Go.Proofs.YtjjobkkcmijdlaaDoor
open Go.RowKit
set_option maxRecDepth 100000
set_option linter.unusedVariables false
set_option linter.unusedSimpArgs false
theorem size_i3 : (Tryd.prog.info? 32).map (·.size) = some 3 := by kernel_rfl
theorem rw_i3 : (Tryd.prog.underlying 32).map (·.isRow) = some true := by kernel_rfl
theorem size_i64c : (Tryd.prog.info? 2).map (·.size) = some 1 := by kernel_rfl
theorem zero_i3 : ∀ w, (zeroValue 32).run Tryd.prog w = .ok (.agg (vrow 3 fun _ => .int .i64 0)) w := fun _ => by kernel_rfl
theorem built_zi3 : Tryd.prog.built 32 [] = some (vrow 3 fun _ => .int .i64 0) := by kernel_rfl
theorem yields_b {P : Program} {ops : Array Oper} {S : World → Prop} {o : Oper} {a : Act} (hw : Region.wanted o (yielded ops a.tmps) = true) (t : TypeId) (parts : List (Nat × Operand)) (ho : o.op = .build t parts.toArray)
    (l : List (Nat × Value)) (hl : (parts.map fun p => (p.1, a.eval p.2)) = l) (cells : Array Value) (hc : P.built t l = some cells) : YieldsIf P ops S o (.agg cells) a :=
  .inl ⟨hw, fun w _ => by
    have e : ((parts.toArray.map fun (i, x) => (i, a.eval x)).toList) = l := by rw [← hl]; simp
    unfold execOp
    simp only [ho, Sem.run_bind, run_build w t _ cells (by rw [e]; exact hc), Result.andThen_ok]
    rfl⟩
theorem yields_m {P : Program} {ops : Array Oper} {S : World → Prop} {o : Oper} {a : Act} (hw : Region.wanted o (yielded ops a.tmps) = true) (ty : TypeId) (x : Operand) (ho : o.op = .load ty x)
    (b off : Nat) (hx : a.eval x = .pointer (some ⟨b, off, none⟩)) (n m : Nat) (f : Nat → Value) (r : Array Value) (hbd : off + m ≤ n) (t : TypeId) (d : TypeDesc) (hu : P.underlying ty = some d) (hd : d.isRow = true) (hi : (P.info? ty).map (·.size) = some m)
    (hr : vrow m (fun i => f (off + i)) = r) (hS : ∀ w, S w → w.heap[b]? = some (.cells (vrow n f) t)) : YieldsIf P ops S o (.agg r) a :=
  .inl ⟨hw, fun w hw' => by
    have hg := hS w hw'
    have hrun := run_loadAt_mid (P := P) w b off ty ((List.range m).map fun i => f (off + i)) d (fun j v hj => by
      have hjm : j < m := by
        by_cases c : j < m
        · exact c
        · rw [List.getElem?_eq_none (by simp; omega)] at hj; cases hj
      rw [cell_row hg (by omega)]
      simp [hjm] at hj; rw [hj]) hu hd (by simpa using hi)
    unfold execOp
    simp only [ho, hx, Sem.run_bind, hrun, Result.andThen_ok, Sem.run_pure]
    rw [← hr]; simp [vrow]⟩
set_option maxHeartbeats 400000 in
theorem eqI3_any (g : Nat → Int) (w : World) : Calls Tryd.prog 18 #[.agg (vrow 3 (fun i => .int .i64 (g i))), .agg (vrow 3 (fun i => .int .i64 (g i)))] w fun e w' => e = .returned (.bool true) ∧ Below w.heap.size w w' := by
  have hB : Hid (Below w.heap.size w ((w.alloc (.cells (vrow 3 (fun i => .int .i64 (g i))) 32)).alloc (.cells (vrow 3 (fun i => .int .i64 (g i))) 32))) := (((Below.refl w.heap.size w).alloc (by simp <;> omega) _).alloc (by simp <;> omega) _)
  have P : Hid (((w.alloc (.cells (vrow 3 (fun i => .int .i64 (g i))) 32)).alloc (.cells (vrow 3 (fun i => .int .i64 (g i))) 32)).heap[(w.heap.size)]? = some (.cells (vrow 3 (fun i => .int .i64 (g i))) 32)) := heap_past _ _ _ _ (by first | omega | (simp <;> omega)) (heap_at _ _ _ (by simp))
  have R : Hid (((w.alloc (.cells (vrow 3 (fun i => .int .i64 (g i))) 32)).alloc (.cells (vrow 3 (fun i => .int .i64 (g i))) 32)).heap[(w.heap.size + 1)]? = some (.cells (vrow 3 (fun i => .int .i64 (g i))) 32)) := heap_at _ _ _ (by simp)
  go_enter Tryd.func18, Tryd.ntmps18
  go_wp2
  go_loopw [5] (fun i wr => ∃ k : Nat, k ≤ 3 ∧ i = .int .i64 k ∧ Below w.heap.size w wr ∧ wr.heap[w.heap.size]? = some (.cells (vrow 3 (fun i => .int .i64 (g i))) 32) ∧ wr.heap[w.heap.size + 1]? = some (.cells (vrow 3 (fun i => .int .i64 (g i))) 32)) (fun i _ => 3 - (intOf i).toNat)
  case atStart => exact ⟨0, by omega, rfl, hB.out, P.out, R.out⟩
  case round =>
    clear hB P R
    obtain ⟨k, hk, rfl, hB, P, R⟩ := hrel
    replace hB := Go.Lib.hid hB; replace P := Go.Lib.hid P; replace R := Go.Lib.hid R
    by_cases hlt : k < 3
    · have hxI : (k : Int) < 3 := by omega
      have c1 : wr.cell? ⟨w.heap.size, k, none⟩ = some (.int .i64 (g k)) := cell_row P.out hlt
      have c2 : wr.cell? ⟨w.heap.size + 1, k, none⟩ = some (.int .i64 (g k)) := cell_row R.out hlt
      go_wp2
      go_quiet (fail)
      go_wp2
      go_roundw
      case rel => exact ⟨k + 1, by omega, by go_num, below_drewN hB.out _, P.out, R.out⟩
      case measure => simp [intOf]; omega
    · obtain rfl : k = 3 := by omega
      go_wp2
      go_ret
      exact ⟨rfl, hB.out⟩
end Go.Proofs.YtjjobkkcmijdlaaDoor
