import Derived.Deep.RegionHeld3
import Derived.Test.YtflmkhjleifbbaaDoorBest
import Derived.Test.YtflmkhjleifbbaaDoorSpots
namespace Go.Proofs.YtflmkhjleifbbaaDoor
open Go.RowKit
set_option maxRecDepth 100000
set_option linter.unusedVariables false
set_option linter.unusedSimpArgs false
set_option linter.unusedSimpArgs false
def wetF (s : Sh) (x y : Nat) : Int := s.wet (8 * y + x)
set_option maxHeartbeats 1000000 in
theorem l02Wet_any (s : Sh) (b x y : Nat) (w : World) (hs : w.heap[b]? = some (.cells s.row 34)) (hf : s.fit) (hx : x < 8) (hy : y < 8) : Calls Tryd.prog 43 #[.pointer (some ⟨b, 0, none⟩), .agg #[.int .i8 x, .int .i8 y]] w fun e w' => e = .returned (.int .i64 (wetF s x y)) ∧ Below w.heap.size w w' := by
  have hwb := hf.wet (8 * y + x) (by omega)
  rw [sp_vrow]
  have hB : Hid (Below w.heap.size w (w.alloc (.cells (vrow 2 (spAt x y)) 42))) := ((Below.refl w.heap.size w).alloc (by simp <;> omega) _)
  have R : Hid ((w.alloc (.cells (vrow 2 (spAt x y)) 42)).heap[(w.heap.size)]? = some (.cells (vrow 2 (spAt x y)) 42)) := heap_at _ _ _ (by simp)
  have P : Hid ((w.alloc (.cells (vrow 2 (spAt x y)) 42)).heap[b]? = some (.cells (vrow 266 s.at) 34)) := heap_past _ _ _ _ (by first | (have := row_lt hs; omega) | (have := row_lt hs; simp <;> omega)) (hs)
  go_enter Tryd.func43, Tryd.ntmps43
  go_wp2
  (refine region_at (by kernel_rfl) (by kernel_rfl) ?_; intro W hW; rw [hW] at hB P R; clear hW; have P' := Go.Lib.hid (cls_row' P.out); have R' := Go.Lib.hid (cls_row' R.out); (repeat (first | go_big_quiet_skip | (refine wpQuiet_load1 23 _ rfl (by first | exact want_n rfl | exact want_g _ _ _ rfl rfl rfl) b _ rfl 266 s.at _ rw_i16 P'.out (by omega) ?_; (first | rw [Sh.at_0] | rw [Sh.at_1] | rw [Sh.at_wax1 _ _ (by omega)] | rw [Sh.at_wet1 _ _ (8 * y + x) (by omega) (by omega)] | rw [Sh.at_dye1 _ _ (24 * y + 3 * x) (by omega) (by omega)]); simp only [Act.put, List.setIfInBounds_toArray, List.set_cons_succ, List.set_cons_zero]) | (refine wpQuiet_load1 22 _ rfl (by first | exact want_n rfl | exact want_g _ _ _ rfl rfl rfl) (w.heap.size) _ rfl 2 (spAt x y) _ rw_i8 R'.out (by omega) ?_; (first | rw [spAt_0] | rw [spAt_1]); simp only [Act.put, List.setIfInBounds_toArray, List.set_cons_succ, List.set_cons_zero]) | go_big_quiet_step (fail))); refine wpQuiet_nil ?_; intro Wn hb; replace P := Go.Lib.hid (row_next hb P.out); replace R := Go.Lib.hid (row_next hb R.out); replace hB := Go.Lib.hid (below_next hB.out hb); clear hb P' R')
  go_wp2
  go_ret
  exact ⟨rfl, hB.out⟩
attribute [local go_sem] Oper.semAt_some
end Go.Proofs.YtflmkhjleifbbaaDoor
