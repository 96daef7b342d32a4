import Derived.Test.YtlgeemlbilngaaaDoorCbfC
import Derived.Test.YtlgeemlbilngaaaDoorUnlB
import Derived.Test.YtlgeemlbilngaaaDoorCodeOf
import Derived.Test.YtlgeemlbilngaaaDoorLOff
namespace Go.Proofs.YtlgeemlbilngaaaDoor
open Go.RowKit
set_option maxRecDepth 100000
set_option linter.unusedVariables false
set_option linter.unusedSimpArgs false
set_option maxHeartbeats 4000000 in
theorem implF (s : Sh) (ax : Int) (d : Bool) (pr : Int) (r : Bool) (k : Int) (ev : Value) (e : ErrE) (w : World) (hE : Errs e w)
    (HC0 : ∀ W, Errs e W → Calls Tryd.prog 21 #[.agg s.row] W fun o w' => o = .returned ev ∧ Below W.heap.size W w')
    (HU0 : ∀ W, Errs e W → W.heap[w.heap.size]? = some (.cells (vrow 266 s.at) 36) → W.heap[w.heap.size + 1]? = some (.cells (vrow 3 (foAt ax d pr)) 38) → Calls Tryd.prog 20 #[ev, .func (.func 25) #[] #[.pointer (some ⟨w.heap.size, 0, none⟩), .pointer (some ⟨w.heap.size + 1, 0, none⟩)]] W fun o w' => o = .returned (.tuple #[.bool r, .int .i64 k]) ∧ Below W.heap.size W w') :
    Calls Tryd.prog 11 #[.agg s.row, .agg (vrow 3 (foAt ax d pr))] w fun o w' => o = .returned (.tuple #[.bool r, .int .i64 k]) ∧ Below w.heap.size w w' := by
  have HC := Go.Lib.hid HC0
  have HU := Go.Lib.hid HU0
  clear HC0 HU0
  have hmf : ∀ (fn : Fn) (first cap : Array Value) (w : World), (Instr.makeFunc fn first cap).run Tryd.prog w = .ok (.func fn first cap) w := fun _ _ _ _ => rfl
  have P : Hid (((w.alloc (.cells (vrow 266 s.at) 36)).alloc (.cells (vrow 3 (foAt ax d pr)) 38)).heap[w.heap.size]? = some (.cells (vrow 266 s.at) 36)) := (heap_past _ _ _ _ (by simp <;> omega) (heap_at _ _ _ (by simp)))
  have F : Hid (((w.alloc (.cells (vrow 266 s.at) 36)).alloc (.cells (vrow 3 (foAt ax d pr)) 38)).heap[w.heap.size + 1]? = some (.cells (vrow 3 (foAt ax d pr)) 38)) := (heap_at _ _ _ (by simp))
  have hB : Hid (Below w.heap.size w ((w.alloc (.cells (vrow 266 s.at) 36)).alloc (.cells (vrow 3 (foAt ax d pr)) 38))) := Go.Lib.hid (((Below.refl w.heap.size w).alloc (by simp <;> omega) _).alloc (by simp <;> omega) _)
  go_enter Tryd.func11, Tryd.ntmps11
  go_wp2_with (first
    | go_skip
    | ((with_reducible refine wlAt 6 rfl ?_); refine wpList_loadall rfl 36 (.tmp 2) rfl w.heap.size rfl 266 s.at 36 _ Tryd.underlying36 rfl size_sheet P.out ?_)
    | (go_at_call 21; (refine (HC.out _ (hE.next hB.out)).mono ?_); rintro o w1 ⟨rfl, hb⟩; replace P := Go.Lib.hid (row_next hb P.out); replace F := Go.Lib.hid (row_next hb F.out); replace hB := Go.Lib.hid (below_next hB.out hb); clear hb)
    | (go_at_call 20; (refine (HU.out _ (hE.next hB.out) P.out F.out).mono ?_); rintro o w2 ⟨rfl, hb⟩; replace P := Go.Lib.hid (row_next hb P.out); replace F := Go.Lib.hid (row_next hb F.out); replace hB := Go.Lib.hid (below_next hB.out hb); clear hb))
  go_ret2
  exact ⟨rfl, hB.out⟩
set_option maxHeartbeats 4000000 in
theorem specF_err (s : Sh) (ax : Int) (d : Bool) (pr : Int) (w : World) (hf : s.fit) (hax : -128 ≤ ax ∧ ax ≤ 127) (hap : -128 ≤ pr ∧ pr ≤ 127) (c : Int) (hc : askC (okI s) (foldOk s ax d pr) true = c) (h0 : (c != 0) = true) : Calls Tryd.prog 10 #[.agg s.row, .agg (vrow 3 (foAt ax d pr))] w fun e w' => e = .returned (.tuple #[.bool false, .int .i64 c]) ∧ Below w.heap.size w w' := by
  have HA := Go.Lib.hid fun W h => asked_any s w.heap.size ax d pr true W h hf hax hap
  have e1 : askC (okB s) (foldOk s ax d pr) true = c := by rw [← ok_eq s hf]; exact hc
  rw [e1, fo_vrow] at HA
  clear hc e1
  have P : Hid (((w.alloc (.cells (vrow 266 s.at) 36)).alloc (.cells (vrow 3 (foAt ax d pr)) 38)).heap[w.heap.size]? = some (.cells (vrow 266 s.at) 36)) := (heap_past _ _ _ _ (by simp <;> omega) (heap_at _ _ _ (by simp)))
  have F : Hid (((w.alloc (.cells (vrow 266 s.at) 36)).alloc (.cells (vrow 3 (foAt ax d pr)) 38)).heap[w.heap.size + 1]? = some (.cells (vrow 3 (foAt ax d pr)) 38)) := (heap_at _ _ _ (by simp))
  have hB : Hid (Below w.heap.size w ((w.alloc (.cells (vrow 266 s.at) 36)).alloc (.cells (vrow 3 (foAt ax d pr)) 38))) := Go.Lib.hid (((Below.refl w.heap.size w).alloc (by simp <;> omega) _).alloc (by simp <;> omega) _)
  go_enter Tryd.func10, Tryd.ntmps10
  go_wp2_with (first
    | go_skip
    | ((with_reducible refine wlAt 9 rfl ?_); refine wpList_loadall rfl 38 (.tmp 3) rfl (w.heap.size + 1) rfl 3 (foAt ax d pr) 38 _ Tryd.underlying38 rfl size_fold F.out ?_)
    | (go_at_call 15; (refine (HA.out _ P.out).mono ?_); rintro o w1 ⟨rfl, hb⟩; replace P := Go.Lib.hid (row_next hb P.out); replace F := Go.Lib.hid (row_next hb F.out); replace hB := Go.Lib.hid (below_next hB.out hb); clear hb))
  go_ret2
  exact ⟨rfl, hB.out⟩
set_option maxHeartbeats 4000000 in
theorem specF_ok (s : Sh) (a c : Nat) (ax : Int) (d : Bool) (pr : Int) (w : World) (hf : s.fit) (hax : -128 ≤ ax ∧ ax ≤ 127) (hap : -128 ≤ pr ∧ pr ≤ 127) (hc : askC (okI s) (foldOk s ax d pr) true = 0) (hv : okI s = true) (hax2 : 1 ≤ ax ∧ ax ≤ 8) (ea : s.wide = a) (ec : s.high = c) (ha : 1 ≤ a ∧ a ≤ 8) (hcc : 1 ≤ c ∧ c ≤ 8) : Calls Tryd.prog 10 #[.agg s.row, .agg (vrow 3 (foAt ax d pr))] w fun e w' => e = .returned (.tuple #[.bool (decide (oM (gq s ax d (prsL s a c ax d)) (prsL s a c ax d).length ≤ 1)), .int .i64 0]) ∧ Below w.heap.size w w' := by
  have HA := Go.Lib.hid fun W h => asked_any s w.heap.size ax d pr true W h hf hax hap
  have e1 : askC (okB s) (foldOk s ax d pr) true = 0 := by rw [← ok_eq s hf]; exact hc
  rw [e1, fo_vrow] at HA
  have HO := Go.Lib.hid fun W h => loff_any s w.heap.size a c ax d pr W h hf hv hax2 ea ec ha hcc
  generalize oS (gq s ax d (prsL s a c ax d)) (prsL s a c ax d).length = r at *
  generalize oM (gq s ax d (prsL s a c ax d)) (prsL s a c ax d).length = m at *
  clear hc e1 ea ec
  have P : Hid (((w.alloc (.cells (vrow 266 s.at) 36)).alloc (.cells (vrow 3 (foAt ax d pr)) 38)).heap[w.heap.size]? = some (.cells (vrow 266 s.at) 36)) := (heap_past _ _ _ _ (by simp <;> omega) (heap_at _ _ _ (by simp)))
  have F : Hid (((w.alloc (.cells (vrow 266 s.at) 36)).alloc (.cells (vrow 3 (foAt ax d pr)) 38)).heap[w.heap.size + 1]? = some (.cells (vrow 3 (foAt ax d pr)) 38)) := (heap_at _ _ _ (by simp))
  have hB : Hid (Below w.heap.size w ((w.alloc (.cells (vrow 266 s.at) 36)).alloc (.cells (vrow 3 (foAt ax d pr)) 38))) := Go.Lib.hid (((Below.refl w.heap.size w).alloc (by simp <;> omega) _).alloc (by simp <;> omega) _)
  go_enter Tryd.func10, Tryd.ntmps10
  go_wp2_with (first
    | go_skip
    | ((first | (with_reducible refine wlAt 9 rfl ?_) | (with_reducible refine wlAt 15 rfl ?_)); refine wpList_loadall rfl 38 (.tmp 3) rfl (w.heap.size + 1) rfl 3 (foAt ax d pr) 38 _ Tryd.underlying38 rfl size_fold F.out ?_)
    | (go_at_call 15; (refine (HA.out _ P.out).mono ?_); rintro o w1 ⟨rfl, hb⟩; replace P := Go.Lib.hid (row_next hb P.out); replace F := Go.Lib.hid (row_next hb F.out); replace hB := Go.Lib.hid (below_next hB.out hb); clear hb)
    | (go_at_call 16; (refine (HO.out _ P.out).mono ?_); rintro o w1 ⟨rfl, hb⟩; replace P := Go.Lib.hid (row_next hb P.out); replace F := Go.Lib.hid (row_next hb F.out); replace hB := Go.Lib.hid (below_next hB.out hb); clear hb))
  go_ret2
  exact ⟨rfl, hB.out⟩
end Go.Proofs.YtlgeemlbilngaaaDoor
