import Derived.Test.YtmcpaangofdmpaaDoorBfL
import Derived.Test.YtmcpaangofdmpaaDoorBfS
import Derived.Test.YtmcpaangofdmpaaDoorEqSheet
namespace Go.Proofs.YtmcpaangofdmpaaDoor
open Go.RowKit
set_option maxRecDepth 100000
set_option linter.unusedVariables false
set_option linter.unusedSimpArgs false
set_option maxRecDepth 100000 in
set_option maxHeartbeats 4000000 in
theorem bf_walk (s : Sh) (t : Int × Bool × Int) (m k : Int) (er : ErrE) (w : World) (hE : Errs er w)
    (hS : ∀ w, Calls Tryd.prog 28 #[.agg s.row] w fun e w' => e = .returned (.tuple #[.agg (vrow 3 (foAt t.1 t.2.1 t.2.2)), .int .i64 m, .int .i64 k]) ∧ Below w.heap.size w w')
    (hI : ∀ w, Errs er w → Calls Tryd.prog 29 #[.agg s.row] w fun e w' => e = .returned (.tuple #[.agg (vrow 3 (foAt t.1 t.2.1 t.2.2)), .int .i64 m, .int .i64 k]) ∧ Below w.heap.size w w') :
    Calls Tryd.prog 7 #[.agg s.row] w fun o w' => o = .returned (.bool true) ∧ Below w.heap.size w w' := by
  have HT := Go.Lib.hid fun w => toSheet_any s w
  have HS := Go.Lib.hid hS
  have HI := Go.Lib.hid hI
  have HQ := Go.Lib.hid fun w => eqFo_any t.1 t.2.1 t.2.2 w
  have zf := zero_foldB
  clear hS hI
  have P : Hid ((w.alloc (.cells (vrow 266 s.at) 31)).heap[w.heap.size]? = some (.cells (vrow 266 s.at) 31)) := (heap_at _ _ _ (by simp))
  have hB : Hid (Below w.heap.size w (w.alloc (.cells (vrow 266 s.at) 31))) := Go.Lib.hid ((Below.refl w.heap.size w).alloc (by simp <;> omega) _)
  have E : Hid (Errs er (w.alloc (.cells (vrow 266 s.at) 31))) := Go.Lib.hid (hE.alloc _)
  go_enter Tryd.func7, Tryd.ntmps7
  go_wp2_with (first
    | go_skip
    | ((first | (with_reducible refine wlAt 10 rfl ?_) | (with_reducible refine wlAt 17 rfl ?_)); refine wpList_loadall rfl 31 (.tmp 1) rfl _ rfl 266 s.at 31 _ Tryd.underlying31 rfl size_lsheet P.out ?_)
    | (go_at_call 13; (refine (HT.out _).mono ?_); rintro o w1 ⟨rfl, hb⟩; (try (replace U := Go.Lib.hid (row_next hb U.out))); (try (replace V := Go.Lib.hid (row_next hb V.out))); replace P := Go.Lib.hid (row_next hb P.out); replace E := Go.Lib.hid (E.out.next hb); replace hB := Go.Lib.hid (below_next hB.out hb); clear hb)
    | (go_at_call 28; (refine (HS.out _).mono ?_); rintro o w1 ⟨rfl, hb⟩; (try (replace U := Go.Lib.hid (row_next hb U.out))); (try (replace V := Go.Lib.hid (row_next hb V.out))); replace P := Go.Lib.hid (row_next hb P.out); replace E := Go.Lib.hid (E.out.next hb); replace hB := Go.Lib.hid (below_next hB.out hb); clear hb)
    | (go_at_call 29; (refine (HI.out _ E.out).mono ?_); rintro o w1 ⟨rfl, hb⟩; (try (replace U := Go.Lib.hid (row_next hb U.out))); (try (replace V := Go.Lib.hid (row_next hb V.out))); replace P := Go.Lib.hid (row_next hb P.out); replace E := Go.Lib.hid (E.out.next hb); replace hB := Go.Lib.hid (below_next hB.out hb); clear hb)
    | ((with_reducible refine wlOp (.store 38 (.tmp 3) (.tmp 13)) rfl ?_); refine wpList_storeall rfl 38 (.tmp 3) (.tmp 13) rfl _ rfl 3 (foAt 0 false 0) (foAt t.1 t.2.1 t.2.2) rfl 38 size_fold (heap_at w1 _ _ rfl) (fun i _ => foAt_oneB _ _ _ i) ?_; rw [setRow_at _ _ _ _ _ rfl]; (try (replace U := Go.Lib.hid (heap_past w1 (.cells (vrow 3 (foAt t.1 t.2.1 t.2.2)) 38) _ _ (row_lt U.out) U.out))); have U := Go.Lib.hid (heap_at w1 (.cells (vrow 3 (foAt t.1 t.2.1 t.2.2)) 38) _ rfl); replace P := Go.Lib.hid (heap_past w1 (.cells (vrow 3 (foAt t.1 t.2.1 t.2.2)) 38) _ _ (row_lt P.out) P.out); replace E := Go.Lib.hid (E.out.alloc (.cells (vrow 3 (foAt t.1 t.2.1 t.2.2)) 38)); replace hB := Go.Lib.hid (hB.out.alloc hB.out.size (.cells (vrow 3 (foAt t.1 t.2.1 t.2.2)) 38)); generalize World.alloc w1 _ = W4 at P E hB U ⊢)
    | ((with_reducible refine wlOp (.store 38 (.tmp 6) (.tmp 20)) rfl ?_); refine wpList_storeall rfl 38 (.tmp 6) (.tmp 20) rfl _ rfl 3 (foAt 0 false 0) (foAt t.1 t.2.1 t.2.2) rfl 38 size_fold (heap_at w1 _ _ rfl) (fun i _ => foAt_oneB _ _ _ i) ?_; rw [setRow_at _ _ _ _ _ rfl]; (try (replace U := Go.Lib.hid (heap_past w1 (.cells (vrow 3 (foAt t.1 t.2.1 t.2.2)) 38) _ _ (row_lt U.out) U.out))); have V := Go.Lib.hid (heap_at w1 (.cells (vrow 3 (foAt t.1 t.2.1 t.2.2)) 38) _ rfl); replace P := Go.Lib.hid (heap_past w1 (.cells (vrow 3 (foAt t.1 t.2.1 t.2.2)) 38) _ _ (row_lt P.out) P.out); replace E := Go.Lib.hid (E.out.alloc (.cells (vrow 3 (foAt t.1 t.2.1 t.2.2)) 38)); replace hB := Go.Lib.hid (hB.out.alloc hB.out.size (.cells (vrow 3 (foAt t.1 t.2.1 t.2.2)) 38)); generalize World.alloc w1 _ = W7 at P E hB U V ⊢)
    | ((with_reducible refine wlAt 23 rfl ?_); refine wpList_loadall rfl 38 (.tmp 6) rfl _ rfl 3 (foAt t.1 t.2.1 t.2.2) 38 _ Tryd.underlying38 rfl size_fold V.out ?_)
    | ((with_reducible refine wlAt 24 rfl ?_); refine wpList_loadall rfl 38 (.tmp 3) rfl _ rfl 3 (foAt t.1 t.2.1 t.2.2) 38 _ Tryd.underlying38 rfl size_fold U.out ?_)
    | (go_at_call 30; (refine (HQ.out _).mono ?_); rintro o w1 ⟨rfl, hb⟩; (try (replace U := Go.Lib.hid (row_next hb U.out))); (try (replace V := Go.Lib.hid (row_next hb V.out))); replace P := Go.Lib.hid (row_next hb P.out); replace E := Go.Lib.hid (E.out.next hb); replace hB := Go.Lib.hid (below_next hB.out hb); clear hb))
  go_ret
  exact ⟨rfl, hB.out⟩
theorem bf_law (s : Sh) (er : ErrE) (w : World) (hE : Errs er w) (hf : s.fit) : Calls Tryd.prog 7 #[.agg s.row] w fun o w' => o = .returned (.bool true) ∧ Below w.heap.size w w' := by
  cases ho : okI s
  · exact bf_walk s (0, false, 0) 0 1 er w hE (fun w => specBf_bad s hf ho w) (fun w hE => implBf_bad s hf ho er w hE)
  · obtain ⟨a, c, ea, ec, ha, hc⟩ := fitW s ho
    rcases Nat.eq_zero_or_pos (folA a c).length with h0 | h0
    · exact bf_walk s (0, false, 0) 0 6 er w hE (fun w => specBf_none s a c hf ho ea ec ha hc h0 w) (fun w hE => implBf_none s a c hf ho ea ec ha hc h0 er w hE)
    · exact bf_walk s _ _ 0 er w hE (fun w => specBf_ok s a c hf ho ea ec ha hc h0 w) (fun w hE => implBf_ok s a c hf ho ea ec ha hc h0 er w hE)
end Go.Proofs.YtmcpaangofdmpaaDoor
