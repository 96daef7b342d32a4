import Derived.Test.YtlhbdiddcbobjaaChos
import Derived.Test.YtlhbdiddcbobjaaPic
import Derived.Test.YtlhbdiddcbobjaaG1
namespace Go.Proofs.Ytlhbdiddcbobjaa
open Go.RowKit
set_option maxRecDepth 100000
set_option linter.unusedVariables false
set_option linter.unusedSimpArgs false
theorem chosenP_any (s : Pic) (a c : Nat) (pb : Nat → Nat → Bool) (F : FuncId) (lb : Array Value) (w : World) (ea : s.wide = a) (ec : s.high = c) (ha : a ≤ 8) (hc : c ≤ 8)
    (hF : ∀ (xs : Array Value) (w : World), (callFunc F xs).run Try.prog w = .ok (.enter F xs) w) 
    (hC : ∀ x y W, x < a → y < c → Below w.heap.size w W → Calls Try.prog F (#[.agg (vrow 2 (spAt x y))] ++ lb) W fun e w' => e = .returned (.bool (pb x y)) ∧ Below W.heap.size W w') :
    Calls Try.prog 26 #[.agg s.row, .func (.func F) #[] lb] w fun e w' => ∃ v, e = .returned v ∧ w'.ownsRow w.heap.size 49 2 v (fl pb (cellsL a c)).length (vals (fl pb (cellsL a c))) ∧ Below w.heap.size w w' := by
  have HS : Hid (∀ W, Below w.heap.size w W → Calls Try.prog 37 #[.int .i8 a, .int .i8 c, .func (.func F) #[] lb] W fun e w' => ∃ v, e = .returned v ∧ w'.ownsRow W.heap.size 49 2 v (fl pb (cellsL a c)).length (vals (fl pb (cellsL a c))) ∧ Below W.heap.size W w') :=
    Go.Lib.hid fun W hW => spotsT_any a c pb F lb W ha hc hF fun x y W' hx hy hb => hC x y W' hx hy (hW.trans (hb.mono hW.size))
  clear hC
  have hB : Hid (Below w.heap.size w (w.alloc (.cells (vrow 66 s.at) 26))) := Go.Lib.hid ((Below.refl w.heap.size w).alloc (by simp <;> omega) _)
  have P : Hid ((w.alloc (.cells (vrow 66 s.at) 26)).heap[w.heap.size]? = some (.cells (vrow 66 s.at) 26)) := heap_at _ _ _ rfl
  go_enter Try.func26, Try.ntmps26
  go_wp2_with (first
    | go_skip
    | ((with_reducible refine wlAt 6 rfl ?_); refine wpList_load1 rfl 22 (.tmp 5) rfl (w.heap.size) 0 rfl 66 s.at _ _ Try.underlying22 rfl P.out (by omega) ?_; rw [Pic.at_0, ea])
    | ((with_reducible refine wlAt 8 rfl ?_); refine wpList_load1 rfl 22 (.tmp 7) rfl (w.heap.size) 1 rfl 66 s.at _ _ Try.underlying22 rfl P.out (by omega) ?_; rw [Pic.at_1, ec])
    | (go_at_call 37; (refine (HS.out _ hB.out).mono ?_; rintro e w1 ⟨v, rfl, hO, hb⟩; have hsz := hB.out.size; replace hB := Go.Lib.hid (below_next hB.out hb); have O := Go.Lib.hid hO; clear hb hO)))
  go_ret
  exact ⟨v, rfl, own_mono hsz O.out, hB.out⟩
end Go.Proofs.Ytlhbdiddcbobjaa
