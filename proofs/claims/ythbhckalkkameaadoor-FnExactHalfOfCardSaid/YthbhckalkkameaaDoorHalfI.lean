import Derived.Deep.RegionHeld3
import Derived.Test.YthbhckalkkameaaDoorHalfC
import Derived.Test.YthbhckalkkameaaDoorCodeOf
namespace Go.Proofs.YthbhckalkkameaaDoor
open Go.RowKit
set_option maxRecDepth 100000
set_option linter.unusedVariables false
set_option linter.unusedSimpArgs false
set_option maxHeartbeats 2000000 in
theorem hc_bad (s : Sh) (ax : Int) (d : Bool) (p : Int) (b1 b2 : Nat) (w : World) (h1 : w.heap[b1]? = some (.cells (vrow 266 s.at) 39)) (h2 : w.heap[b2]? = some (.cells (vrow 3 (foAt ax d p)) 41)) (hv : (okI s && foldOk s ax d p) = false) (hf : s.fit := by assumption) : Calls Tryd.prog 68 #[.pointer (some ⟨b1, 0, none⟩), .pointer (some ⟨b2, 0, none⟩)] w fun e w' => e = .panicked [{ v := .iface 141 (.agg #[.int .i8 ax, .bool d, .int .i8 p]), recovered := false }] ∧ Below w.heap.size w w' := by
  have HM := Go.Lib.hid fun w => half_bad s ax d p w hv
  have zz := zero_sheet
  have hB : Hid (Below w.heap.size w (w.alloc (.cells (vrow 266 Sh.zero.at) 39))) := Go.Lib.hid ((Below.refl w.heap.size w).alloc (Nat.le_refl _) _)
  have P := Go.Lib.hid (heap_past w (.cells (vrow 266 Sh.zero.at) 39) _ _ (row_lt h1) h1)
  have F := Go.Lib.hid (heap_past w (.cells (vrow 266 Sh.zero.at) 39) _ _ (row_lt h2) h2)
  have Z := Go.Lib.hid (heap_at w (.cells (vrow 266 Sh.zero.at) 39) _ rfl)
  go_enter Tryd.func68, Tryd.ntmps68
  go_wp2_with (first
    | go_skip
    | ((with_reducible refine wlAt 3 rfl ?_); refine wpList_loadall rfl 39 (.tmp 0) rfl b1 rfl 266 s.at 39 _ Tryd.underlying39 rfl size_sheet P.out ?_)
    | ((with_reducible refine wlAt 4 rfl ?_); refine wpList_loadall rfl 41 (.tmp 1) rfl b2 rfl 3 (foAt ax d p) 41 _ Tryd.underlying41 rfl size_fold F.out ?_)
    | (go_at_call 69; (refine (HM.out _).mono ?_); rintro o w1 ⟨rfl, hb⟩; replace hB := Go.Lib.hid (below_next hB.out hb); clear hb))
  exact ⟨rfl, rfl, hB.out⟩
set_option maxHeartbeats 2000000 in
theorem hc_ok (s : Sh) (ax : Int) (d : Bool) (p : Int) (b1 b2 : Nat) (w : World) (h1 : w.heap[b1]? = some (.cells (vrow 266 s.at) 39)) (h2 : w.heap[b2]? = some (.cells (vrow 3 (foAt ax d p)) 41)) (r : Sh) (HR : ∀ w, Calls Tryd.prog 69 #[.agg s.row, .agg (vrow 3 (foAt ax d p))] w fun e w' => e = .returned (.agg r.row) ∧ Below w.heap.size w w') : Calls Tryd.prog 68 #[.pointer (some ⟨b1, 0, none⟩), .pointer (some ⟨b2, 0, none⟩)] w fun e w' => e = .returned (.agg (vrow 266 r.at)) ∧ Below w.heap.size w w' := by
  have HM := Go.Lib.hid HR
  have zz := zero_sheet
  have hB : Hid (Below w.heap.size w (w.alloc (.cells (vrow 266 Sh.zero.at) 39))) := Go.Lib.hid ((Below.refl w.heap.size w).alloc (Nat.le_refl _) _)
  have P := Go.Lib.hid (heap_past w (.cells (vrow 266 Sh.zero.at) 39) _ _ (row_lt h1) h1)
  have F := Go.Lib.hid (heap_past w (.cells (vrow 266 Sh.zero.at) 39) _ _ (row_lt h2) h2)
  have Z := Go.Lib.hid (heap_at w (.cells (vrow 266 Sh.zero.at) 39) _ rfl)
  clear HR
  go_enter Tryd.func68, Tryd.ntmps68
  go_wp2_with (first
    | go_skip
    | ((with_reducible refine wlAt 3 rfl ?_); refine wpList_loadall rfl 39 (.tmp 0) rfl b1 rfl 266 s.at 39 _ Tryd.underlying39 rfl size_sheet P.out ?_)
    | ((with_reducible refine wlAt 4 rfl ?_); refine wpList_loadall rfl 41 (.tmp 1) rfl b2 rfl 3 (foAt ax d p) 41 _ Tryd.underlying41 rfl size_fold F.out ?_)
    | (go_at_call 69; (refine (HM.out _).mono ?_); rintro o w1 ⟨rfl, hb⟩; replace Z := Go.Lib.hid (row_next hb Z.out); replace hB := Go.Lib.hid (below_next hB.out hb); clear hb)
    | ((with_reducible refine wlOp (.store 39 (.tmp 2) (.tmp 5)) rfl ?_); refine wpList_storeall rfl 39 (.tmp 2) (.tmp 5) rfl w.heap.size rfl 266 Sh.zero.at r.at rfl 39 size_sheet Z.out (fun i _ => Sh.one _ i) ?_; replace Z := Go.Lib.hid (row_set Z.out (vrow 266 r.at)); replace hB := Go.Lib.hid (Below_setRow hB.out (Nat.le_refl _) (vrow 266 r.at))))
  exact ret_row Tryd.results68 w.heap.size 266 r.at 39 _ Tryd.underlying39 rfl size_sheet rfl rfl Z.out ⟨rfl, hB.out⟩
set_option maxHeartbeats 4000000 in
theorem implH (s : Sh) (ax : Int) (d : Bool) (p : Int) (r : Sh) (k : Int) (ev : Value) (e : ErrE) (w : World) (hE : Errs e w)
    (HC0 : ∀ W, Errs e W → Calls Tryd.prog 67 #[.agg s.row] W fun o w' => o = .returned ev ∧ Below W.heap.size W w')
    (HU0 : ∀ W, Errs e W → W.heap[w.heap.size]? = some (.cells (vrow 266 s.at) 39) → W.heap[w.heap.size + 1]? = some (.cells (vrow 3 (foAt ax d p)) 41) → Calls Tryd.prog 66 #[ev, .func (.func 68) #[] #[.pointer (some ⟨w.heap.size, 0, none⟩), .pointer (some ⟨w.heap.size + 1, 0, none⟩)]] W fun o w' => o = .returned (.tuple #[.agg (vrow 266 r.at), .int .i64 k]) ∧ Below W.heap.size W w') :
    Calls Tryd.prog 22 #[.agg s.row, .agg #[.int .i8 ax, .bool d, .int .i8 p]] w fun o w' => o = .returned (.tuple #[.agg r.row, .int .i64 k]) ∧ Below w.heap.size w w' := by
  have HC := Go.Lib.hid HC0
  have HU := Go.Lib.hid HU0
  rw [fo_vrow]
  clear HC0 HU0
  have hmf : ∀ (fn : Fn) (first cap : Array Value) (w : World), (Instr.makeFunc fn first cap).run Tryd.prog w = .ok (.func fn first cap) w := fun _ _ _ _ => rfl
  have zz := zero_sheet
  have hB : Hid (Below w.heap.size w (((w.alloc (.cells (vrow 266 s.at) 39)).alloc (.cells (vrow 3 (foAt ax d p)) 41)).alloc (.cells (vrow 266 Sh.zero.at) 39))) := Go.Lib.hid ((((Below.refl w.heap.size w).alloc (by simp <;> omega) _).alloc (by simp <;> omega) _).alloc (by simp <;> omega) _)
  have P : Hid ((((w.alloc (.cells (vrow 266 s.at) 39)).alloc (.cells (vrow 3 (foAt ax d p)) 41)).alloc (.cells (vrow 266 Sh.zero.at) 39)).heap[w.heap.size]? = some (.cells (vrow 266 s.at) 39)) := heap_past _ _ _ _ (by simp <;> omega) (heap_past _ _ _ _ (by simp <;> omega) (heap_at _ _ _ (by simp)))
  have F : Hid ((((w.alloc (.cells (vrow 266 s.at) 39)).alloc (.cells (vrow 3 (foAt ax d p)) 41)).alloc (.cells (vrow 266 Sh.zero.at) 39)).heap[w.heap.size + 1]? = some (.cells (vrow 3 (foAt ax d p)) 41)) := heap_past _ _ _ _ (by simp <;> omega) (heap_at _ _ _ (by simp))
  have Z : Hid ((((w.alloc (.cells (vrow 266 s.at) 39)).alloc (.cells (vrow 3 (foAt ax d p)) 41)).alloc (.cells (vrow 266 Sh.zero.at) 39)).heap[w.heap.size + 2]? = some (.cells (vrow 266 Sh.zero.at) 39)) := heap_at _ _ _ (by simp)
  go_enter Tryd.func22, Tryd.ntmps22
  go_wp2_with (first
    | go_skip
    | ((with_reducible refine wlAt 6 rfl ?_); refine wpList_loadall rfl 39 (.tmp 2) rfl w.heap.size rfl 266 s.at 39 _ Tryd.underlying39 rfl size_sheet P.out ?_)
    | (go_at_call 67; (refine (HC.out _ (hE.next hB.out)).mono ?_); rintro o w1 ⟨rfl, hb⟩; replace P := Go.Lib.hid (row_next hb P.out); replace F := Go.Lib.hid (row_next hb F.out); replace Z := Go.Lib.hid (row_next hb Z.out); replace hB := Go.Lib.hid (below_next hB.out hb); clear hb)
    | (go_at_call 66; (refine (HU.out _ (hE.next hB.out) P.out F.out).mono ?_); rintro o w2 ⟨rfl, hb⟩; replace P := Go.Lib.hid (row_next hb P.out); replace F := Go.Lib.hid (row_next hb F.out); replace Z := Go.Lib.hid (row_next hb Z.out); replace hB := Go.Lib.hid (below_next hB.out hb); clear hb)
    | ((with_reducible refine wlOp (.store 39 (.tmp 4) (.tmp 10)) rfl ?_); refine wpList_storeall rfl 39 (.tmp 4) (.tmp 10) rfl (w.heap.size + 2) rfl 266 Sh.zero.at r.at rfl 39 size_sheet Z.out (fun i _ => Sh.one _ i) ?_; replace Z := Go.Lib.hid (row_set Z.out (vrow 266 r.at)); replace hB := Go.Lib.hid (Below_setRow hB.out (show w.heap.size ≤ w.heap.size + 2 by omega) (vrow 266 r.at))))
  exact ret_row2 Tryd.results22 (w.heap.size + 2) 266 r.at 39 _ Tryd.underlying39 rfl size_sheet (.int .i64 k) rfl rfl rfl Z.out ⟨rfl, hB.out⟩
end Go.Proofs.YthbhckalkkameaaDoor
