import Derived.Test.YtgbhchmpeioaiaaDoorDyes
namespace Go.Proofs.YtgbhchmpeioaiaaDoor
open Go.RowKit
set_option maxRecDepth 100000
set_option linter.unusedVariables false
set_option maxHeartbeats 1000000 in
theorem DyeIn_walk (s : Sh) (f : Nat → Value) (g : Nat → Int) (hfg : ∀ i, i < 3 → f i = .int .i64 (g i)) (h1 : ∀ i, (f i).oneCell' = true) (c : Int) (e : ErrE) (w : World) (hE : Errs e w)
    (hS : ∀ w, Calls Tryd.prog 15 #[.agg s.row] w fun e w' => e = .returned (.tuple #[.agg (vrow 3 f), .int .i64 c]) ∧ Below w.heap.size w w')
    (hI : ∀ w, Errs e w → Calls Tryd.prog 17 #[.agg s.row] w fun e w' => e = .returned (.tuple #[.agg (vrow 3 f), .int .i64 c]) ∧ Below w.heap.size w w') : Calls Tryd.prog 3 #[.agg s.row] w fun o w' => o = .returned (.bool true) ∧ Below w.heap.size w w' := by
  have zz := zero_a3
  have HQ := Go.Lib.hid fun w => eqA3_any f g hfg w
  have HS := Go.Lib.hid hS; have HI := Go.Lib.hid hI; have HT := Go.Lib.hid fun w => toSheet_any s w
  clear hS hI hfg
  have hB : Hid (Below w.heap.size w (w.alloc (.cells (vrow 266 s.at) 31))) := ((Below.refl w.heap.size w).alloc (by simp <;> omega) _)
  have P : Hid ((w.alloc (.cells (vrow 266 s.at) 31)).heap[(w.heap.size)]? = some (.cells (vrow 266 s.at) 31)) := heap_at _ _ _ (by simp)
  go_enter Tryd.func3, Tryd.ntmps3
  go_wp2_with (first
    | (refine wpList_loadall rfl 31 (.tmp 1) rfl _ rfl 266 s.at 31 _ Tryd.underlying31 rfl size_lsheet P.out ?_)
    | (go_at_call 16; refine (HT.out _).mono ?_; rintro o w0 ⟨rfl, hb⟩; replace V5 := Go.Lib.hid (row_next hb V5.out); replace P := Go.Lib.hid (row_next hb P.out); replace hB := Go.Lib.hid (below_next hB.out hb); clear hb)
    | (go_at_call 16; refine (HT.out _).mono ?_; rintro o w0 ⟨rfl, hb⟩; replace P := Go.Lib.hid (row_next hb P.out); replace hB := Go.Lib.hid (below_next hB.out hb); clear hb)
    | (go_at_call 15; refine (HS.out _).mono ?_; rintro o w1 ⟨rfl, hb⟩; replace P := Go.Lib.hid (row_next hb P.out); replace hB := Go.Lib.hid (below_next hB.out hb); clear hb)
    | (refine wpList_storeall rfl 32 (.tmp 3) (.tmp 11) rfl _ rfl 3 (fun _ => .int .i64 0) f rfl 32 size_a3 (heap_at _ _ _ rfl) (fun i _ => h1 i) ?_; rw [setRow_at _ _ _ _ _ rfl]; have V5 := Go.Lib.hid (heap_at w1 (.cells (vrow 3 f) 32) _ rfl); replace P := Go.Lib.hid (heap_past w1 (.cells (vrow 3 f) 32) _ _ (row_lt P.out) P.out); replace hB := Go.Lib.hid (hB.out.alloc hB.out.size (.cells (vrow 3 f) 32)))
    | (go_at_call 17; refine (HI.out _ (hE.next hB.out)).mono ?_; rintro o w2 ⟨rfl, hb⟩; replace P := Go.Lib.hid (row_next hb P.out); replace V5 := Go.Lib.hid (row_next hb V5.out); replace hB := Go.Lib.hid (below_next hB.out hb); clear hb)
    | (refine wpList_storeall rfl 32 (.tmp 5) (.tmp 17) rfl _ rfl 3 (fun _ => .int .i64 0) f rfl 32 size_a3 (heap_at _ _ _ rfl) (fun i _ => h1 i) ?_; rw [setRow_at _ _ _ _ _ rfl]; have V6 := Go.Lib.hid (heap_at w2 (.cells (vrow 3 f) 32) _ rfl); replace P := Go.Lib.hid (heap_past w2 (.cells (vrow 3 f) 32) _ _ (row_lt P.out) P.out); replace V5 := Go.Lib.hid (heap_past w2 (.cells (vrow 3 f) 32) _ _ (row_lt V5.out) V5.out); replace hB := Go.Lib.hid (hB.out.alloc hB.out.size (.cells (vrow 3 f) 32)))
    | (refine wpList_loadall rfl 32 (.tmp 5) rfl _ rfl 3 f 32 _ Tryd.underlying32 rfl size_a3 V6.out ?_)
    | (refine wpList_loadall rfl 32 (.tmp 3) rfl _ rfl 3 f 32 _ Tryd.underlying32 rfl size_a3 V5.out ?_)
    | (go_at_call 18; refine (HQ.out _).mono ?_; rintro o w3 ⟨rfl, hb⟩; replace P := Go.Lib.hid (row_next hb P.out); replace hB := Go.Lib.hid (below_next hB.out hb); clear hb))
  go_ret
  exact ⟨rfl, hB.out⟩
theorem DyeIn_law (s : Sh) (e : ErrE) (w : World) (hE : Errs e w) (hf : s.fit) : Calls Tryd.prog 3 #[.agg s.row] w fun o w' => o = .returned (.bool true) ∧ Below w.heap.size w w' := by
  by_cases hv : okI s = true
  · exact DyeIn_walk s (sumsF s 64 0) (fun i => isum s i 64) (fun i _ => by simp [sumsF]) (fun _ => rfl) 0 e w hE (fun w => specDyeIn_ok s w hf hv) (fun w hE => implDyeIn_ok s e w hE hf hv)
  · have hv' : okI s = false := by simpa using hv
    exact DyeIn_walk s (fun _ => .int .i64 0) (fun _ => 0) (fun _ _ => rfl) (fun _ => rfl) 1 e w hE (fun w => specDyeIn_bad s w hf hv') (fun w hE => implDyeIn_bad s e w hE hv')
end Go.Proofs.YtgbhchmpeioaiaaDoor
