import Derived.Test.YtfdjlflnhhiecaaDoorEqSheet
import Derived.Test.YtfdjlflnhhiecaaDoorDry
namespace Go.Proofs.YtfdjlflnhhiecaaDoor
open Go.RowKit
set_option maxRecDepth 100000
set_option linter.unusedVariables false
set_option maxHeartbeats 1000000 in
theorem Dry_walk (s r : Sh) (n c : Int) (e : ErrE) (w : World) (hE : Errs e w)
    (hS : ∀ w, Calls Tryd.prog 34 #[.agg s.row] w fun e w' => e = .returned (.tuple #[.agg r.row, .int .i64 n, .int .i64 c]) ∧ Below w.heap.size w w')
    (hI : ∀ w, Errs e w → Calls Tryd.prog 35 #[.agg s.row] w fun e w' => e = .returned (.tuple #[.agg r.row, .int .i64 n, .int .i64 c]) ∧ Below w.heap.size w w') : Calls Tryd.prog 11 #[.agg s.row] w fun o w' => o = .returned (.bool true) ∧ Below w.heap.size w w' := by
  have zz := zero_sheet
  have HS := Go.Lib.hid hS; have HI := Go.Lib.hid hI; have HT := Go.Lib.hid fun w => toSheet_any s w
  clear hS hI
  have hB : Hid (Below w.heap.size w (w.alloc (.cells (vrow 266 s.at) 31))) := ((Below.refl w.heap.size w).alloc (by simp <;> omega) _)
  have P : Hid ((w.alloc (.cells (vrow 266 s.at) 31)).heap[(w.heap.size)]? = some (.cells (vrow 266 s.at) 31)) := heap_at _ _ _ (by simp)
  go_enter Tryd.func11, Tryd.ntmps11
  go_wp2_with (first
    | (refine wpList_loadall rfl 31 (.tmp 1) rfl _ rfl 266 s.at 31 _ Tryd.underlying31 rfl size_lsheet P.out ?_)
    | (go_at_call 16; refine (HT.out _).mono ?_; rintro o w0 ⟨rfl, hb⟩; replace V5 := Go.Lib.hid (row_next hb V5.out); replace P := Go.Lib.hid (row_next hb P.out); replace hB := Go.Lib.hid (below_next hB.out hb); clear hb)
    | (go_at_call 16; refine (HT.out _).mono ?_; rintro o w0 ⟨rfl, hb⟩; replace P := Go.Lib.hid (row_next hb P.out); replace hB := Go.Lib.hid (below_next hB.out hb); clear hb)
    | (go_at_call 34; refine (HS.out _).mono ?_; rintro o w1 ⟨rfl, hb⟩; replace P := Go.Lib.hid (row_next hb P.out); replace hB := Go.Lib.hid (below_next hB.out hb); clear hb)
    | (refine wpList_storeall rfl 36 (.tmp 3) (.tmp 13) rfl _ rfl 266 Sh.zero.at r.at rfl 36 size_sheet (heap_at _ _ _ rfl) (fun i _ => r.one i) ?_; rw [setRow_at _ _ _ _ _ rfl]; have V5 := Go.Lib.hid (heap_at w1 (.cells r.row 36) _ rfl); replace P := Go.Lib.hid (heap_past w1 (.cells r.row 36) _ _ (row_lt P.out) P.out); replace hB := Go.Lib.hid (hB.out.alloc hB.out.size (.cells r.row 36)))
    | (go_at_call 35; refine (HI.out _ (hE.next hB.out)).mono ?_; rintro o w2 ⟨rfl, hb⟩; replace P := Go.Lib.hid (row_next hb P.out); replace V5 := Go.Lib.hid (row_next hb V5.out); replace hB := Go.Lib.hid (below_next hB.out hb); clear hb)
    | (refine wpList_storeall rfl 36 (.tmp 6) (.tmp 20) rfl _ rfl 266 Sh.zero.at r.at rfl 36 size_sheet (heap_at _ _ _ rfl) (fun i _ => r.one i) ?_; rw [setRow_at _ _ _ _ _ rfl]; have V6 := Go.Lib.hid (heap_at w2 (.cells r.row 36) _ rfl); replace P := Go.Lib.hid (heap_past w2 (.cells r.row 36) _ _ (row_lt P.out) P.out); replace V5 := Go.Lib.hid (heap_past w2 (.cells r.row 36) _ _ (row_lt V5.out) V5.out); replace hB := Go.Lib.hid (hB.out.alloc hB.out.size (.cells r.row 36)))
    | (refine wpList_loadall rfl 36 (.tmp 6) rfl _ rfl 266 r.at 36 _ Tryd.underlying36 rfl size_sheet V6.out ?_)
    | (refine wpList_loadall rfl 36 (.tmp 3) rfl _ rfl 266 r.at 36 _ Tryd.underlying36 rfl size_sheet V5.out ?_)
    | (go_at_call 25; refine (eqSheet_any r _).mono ?_; rintro o w3 ⟨rfl, hb⟩; replace P := Go.Lib.hid (row_next hb P.out); replace hB := Go.Lib.hid (below_next hB.out hb); clear hb))
  go_ret
  exact ⟨rfl, hB.out⟩
theorem DryAll_law (s : Sh) (e : ErrE) (w : World) (hE : Errs e w) (hf : s.fit) : Calls Tryd.prog 11 #[.agg s.row] w fun o w' => o = .returned (.bool true) ∧ Below w.heap.size w w' := by
  by_cases hv : okI s = true
  · exact Dry_walk s s.dry (wsum s 64) 0 e w hE (fun w => specDryAll_ok s w hf hv) (fun w hE => implDryAll_ok s e w hE hf hv)
  · have hv' : okI s = false := by simpa using hv
    exact Dry_walk s Sh.zero 0 1 e w hE (fun w => specDryAll_bad s w hf hv') (fun w hE => implDryAll_bad s e w hE hv')
end Go.Proofs.YtfdjlflnhhiecaaDoor
