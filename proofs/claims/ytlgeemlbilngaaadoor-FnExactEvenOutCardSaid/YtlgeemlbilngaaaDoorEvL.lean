import Derived.Test.YtlgeemlbilngaaaDoorEvC
import Derived.Test.YtlgeemlbilngaaaDoorUnlE
import Derived.Test.YtlgeemlbilngaaaDoorCodeOf
import Derived.Test.YtlgeemlbilngaaaDoorFoV
namespace Go.Proofs.YtlgeemlbilngaaaDoor
open Go.RowKit
set_option maxRecDepth 100000
set_option linter.unusedVariables false
set_option linter.unusedSimpArgs false
set_option maxHeartbeats 4000000 in
theorem implE (s : Sh) (ax : Int) (d : Bool) (p : Int) (r : Sh) (k : Int) (ev : Value) (e : ErrE) (w : World) (hE : Errs e w)
    (HC0 : ∀ W, Errs e W → Calls Tryd.prog 21 #[.agg s.row] W fun o w' => o = .returned ev ∧ Below W.heap.size W w')
    (HU0 : ∀ W, Errs e W → W.heap[w.heap.size]? = some (.cells (vrow 266 s.at) 36) → W.heap[w.heap.size + 1]? = some (.cells (vrow 3 (foAt ax d p)) 38) → Calls Tryd.prog 28 #[ev, .func (.func 29) #[] #[.pointer (some ⟨w.heap.size, 0, none⟩), .pointer (some ⟨w.heap.size + 1, 0, none⟩)]] W fun o w' => o = .returned (.tuple #[.agg (vrow 266 r.at), .int .i64 k]) ∧ Below W.heap.size W w') :
    Calls Tryd.prog 13 #[.agg s.row, .agg #[.int .i8 ax, .bool d, .int .i8 p]] w fun o w' => o = .returned (.tuple #[.agg r.row, .int .i64 k]) ∧ Below w.heap.size w w' := by
  have HC := Go.Lib.hid HC0
  have HU := Go.Lib.hid HU0
  rw [fo_vrow]
  clear HC0 HU0
  have hmf : ∀ (fn : Fn) (first cap : Array Value) (w : World), (Instr.makeFunc fn first cap).run Tryd.prog w = .ok (.func fn first cap) w := fun _ _ _ _ => rfl
  have zz := zero_sheet
  have hB : Hid (Below w.heap.size w (((w.alloc (.cells (vrow 266 s.at) 36)).alloc (.cells (vrow 3 (foAt ax d p)) 38)).alloc (.cells (vrow 266 Sh.zero.at) 36))) := Go.Lib.hid ((((Below.refl w.heap.size w).alloc (by simp <;> omega) _).alloc (by simp <;> omega) _).alloc (by simp <;> omega) _)
  have P : Hid ((((w.alloc (.cells (vrow 266 s.at) 36)).alloc (.cells (vrow 3 (foAt ax d p)) 38)).alloc (.cells (vrow 266 Sh.zero.at) 36)).heap[w.heap.size]? = some (.cells (vrow 266 s.at) 36)) := heap_past _ _ _ _ (by simp <;> omega) (heap_past _ _ _ _ (by simp <;> omega) (heap_at _ _ _ (by simp)))
  have F : Hid ((((w.alloc (.cells (vrow 266 s.at) 36)).alloc (.cells (vrow 3 (foAt ax d p)) 38)).alloc (.cells (vrow 266 Sh.zero.at) 36)).heap[w.heap.size + 1]? = some (.cells (vrow 3 (foAt ax d p)) 38)) := heap_past _ _ _ _ (by simp <;> omega) (heap_at _ _ _ (by simp))
  have Z : Hid ((((w.alloc (.cells (vrow 266 s.at) 36)).alloc (.cells (vrow 3 (foAt ax d p)) 38)).alloc (.cells (vrow 266 Sh.zero.at) 36)).heap[w.heap.size + 2]? = some (.cells (vrow 266 Sh.zero.at) 36)) := heap_at _ _ _ (by simp)
  go_enter Tryd.func13, Tryd.ntmps13
  go_wp2_with (first
    | go_skip
    | ((with_reducible refine wlAt 6 rfl ?_); refine wpList_loadall rfl 36 (.tmp 2) rfl w.heap.size rfl 266 s.at 36 _ Tryd.underlying36 rfl size_sheet P.out ?_)
    | (go_at_call 21; (refine (HC.out _ (hE.next hB.out)).mono ?_); rintro o w1 ⟨rfl, hb⟩; replace P := Go.Lib.hid (row_next hb P.out); replace F := Go.Lib.hid (row_next hb F.out); replace Z := Go.Lib.hid (row_next hb Z.out); replace hB := Go.Lib.hid (below_next hB.out hb); clear hb)
    | (go_at_call 28; (refine (HU.out _ (hE.next hB.out) P.out F.out).mono ?_); rintro o w2 ⟨rfl, hb⟩; replace P := Go.Lib.hid (row_next hb P.out); replace F := Go.Lib.hid (row_next hb F.out); replace Z := Go.Lib.hid (row_next hb Z.out); replace hB := Go.Lib.hid (below_next hB.out hb); clear hb)
    | ((with_reducible refine wlOp (.store 36 (.tmp 4) (.tmp 10)) rfl ?_); refine wpList_storeall rfl 36 (.tmp 4) (.tmp 10) rfl (w.heap.size + 2) rfl 266 Sh.zero.at r.at rfl 36 size_sheet Z.out (fun i _ => Sh.one _ i) ?_; replace Z := Go.Lib.hid (row_set Z.out (vrow 266 r.at)); replace hB := Go.Lib.hid (Below_setRow hB.out (show w.heap.size ≤ w.heap.size + 2 by omega) (vrow 266 r.at))))
  exact ret_row2 Tryd.results13 (w.heap.size + 2) 266 r.at 36 _ Tryd.underlying36 rfl size_sheet (.int .i64 k) rfl rfl rfl Z.out ⟨rfl, hB.out⟩
end Go.Proofs.YtlgeemlbilngaaaDoor
