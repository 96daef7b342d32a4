import Derived.Test.YtmcpaangofdmpaaDoorEdC
import Derived.Test.YtmcpaangofdmpaaDoorCodeOf
namespace Go.Proofs.YtmcpaangofdmpaaDoor
open Go.RowKit
set_option maxRecDepth 100000
set_option linter.unusedVariables false
set_option linter.unusedSimpArgs false
set_option maxHeartbeats 2000000 in
theorem implEd_bad (s : Sh) (hf : s.fit) (ho : okI s = false) (er : ErrE) (w : World) (hE : Errs er w) : Calls Tryd.prog 38 #[.agg s.row] w fun o w' => o = .returned (.tuple #[.slice none 0 0, .int .i64 1]) ∧ Below w.heap.size w w' := by
  have HC := Go.Lib.hid fun w hE => checkSheet_bad s ho er w hE
  have HK := Go.Lib.hid fun w hE => codeOf_1 er w hE
  have P : Hid ((w.alloc (.cells (vrow 266 s.at) 34)).heap[w.heap.size]? = some (.cells (vrow 266 s.at) 34)) := (heap_at _ _ _ (by simp))
  have hB : Hid (Below w.heap.size w (w.alloc (.cells (vrow 266 s.at) 34))) := Go.Lib.hid ((Below.refl w.heap.size w).alloc (by simp <;> omega) _)
  have E : Hid (Errs er (w.alloc (.cells (vrow 266 s.at) 34))) := Go.Lib.hid (hE.alloc _)
  go_enter Tryd.func38, Tryd.ntmps38
  go_wp2_with (first
    | go_skip
    | ((with_reducible refine wlAt 6 rfl ?_); refine wpList_loadall rfl 34 (.tmp 1) rfl w.heap.size rfl 266 s.at 34 _ Tryd.underlying34 rfl size_sheet P.out ?_)
    | (go_at_call 62; (refine (HC.out _ E.out).mono ?_); rintro o w1 ⟨rfl, hb⟩; replace P := Go.Lib.hid (row_next hb P.out); replace E := Go.Lib.hid (E.out.next hb); replace hB := Go.Lib.hid (below_next hB.out hb); clear hb)
    | (go_at_call 63; (refine (HK.out _ E.out).mono ?_); rintro o w1 ⟨rfl, hb⟩; replace P := Go.Lib.hid (row_next hb P.out); replace E := Go.Lib.hid (E.out.next hb); replace hB := Go.Lib.hid (below_next hB.out hb); clear hb))
  go_ret2
  exact ⟨rfl, hB.out⟩
set_option maxHeartbeats 4000000 in
theorem implEd_ok (s : Sh) (a c : Nat) (hf : s.fit) (ho : okI s = true) (ea : s.wide = a) (ec : s.high = c) (ha : 1 ≤ a ∧ a ≤ 8) (hc : 1 ≤ c ∧ c ≤ 8) (er : ErrE) (w : World) (hE : Errs er w) : Calls Tryd.prog 38 #[.agg s.row] w fun o w' => ∃ v, o = .returned (.tuple #[v, .int .i64 0]) ∧ w'.ownsRow w.heap.size 111 2 v (fl (edB s) (cellsL a c)).length (vals (fl (edB s) (cellsL a c))) ∧ Below w.heap.size w w' := by
  have HC := Go.Lib.hid fun w hE => checkSheet_ok s ho er w hE
  have hmf : ∀ (fn : Fn) (first cap : Array Value) (w : World), (Instr.makeFunc fn first cap).run Tryd.prog w = .ok (.func fn first cap) w := fun _ _ _ _ => rfl
  have HCH : Hid (∀ W b5, W.heap[w.heap.size]? = some (.cells (vrow 266 s.at) 34) → W.heap[b5]? = some (.cells (vrow 1 fun _ => .func (.func 87) #[] #[.pointer (some ⟨w.heap.size, 0, none⟩)]) 116) → Calls Tryd.prog 88 #[.agg s.row, .func (.func 89) #[] #[.pointer (some ⟨b5, 0, none⟩), .pointer (some ⟨w.heap.size, 0, none⟩)]] W fun e w' => ∃ v, e = .returned v ∧ w'.ownsRow W.heap.size 111 2 v (fl (edB s) (cellsL a c)).length (vals (fl (edB s) (cellsL a c))) ∧ Below W.heap.size W w') :=
    Go.Lib.hid fun W b5 h1 h5 => chosen_any s a c (edB s) 89 #[.pointer (some ⟨b5, 0, none⟩), .pointer (some ⟨w.heap.size, 0, none⟩)] W ea ec ha.2 hc.2 (fun _ _ => by kernel_rfl) fun x y W' hx hy hb => ed2_any s w.heap.size b5 x y W' (row_next hb h5) (row_next hb h1) ho (by omega) (by omega)
  generalize (fl (edB s) (cellsL a c)) = L at *
  have P : Hid ((w.alloc (.cells (vrow 266 s.at) 34)).heap[w.heap.size]? = some (.cells (vrow 266 s.at) 34)) := (heap_at _ _ _ (by simp))
  have hB : Hid (Below w.heap.size w (w.alloc (.cells (vrow 266 s.at) 34))) := Go.Lib.hid ((Below.refl w.heap.size w).alloc (by simp <;> omega) _)
  have E : Hid (Errs er (w.alloc (.cells (vrow 266 s.at) 34))) := Go.Lib.hid (hE.alloc _)
  go_enter Tryd.func38, Tryd.ntmps38
  go_wp2_with (first
    | go_skip
    | ((with_reducible refine wlAt 6 rfl ?_); refine wpList_loadall rfl 34 (.tmp 1) rfl w.heap.size rfl 266 s.at 34 _ Tryd.underlying34 rfl size_sheet P.out ?_)
    | ((with_reducible refine wlAt 13 rfl ?_); refine wpList_loadall rfl 34 (.tmp 1) rfl w.heap.size rfl 266 s.at 34 _ Tryd.underlying34 rfl size_sheet P.out ?_)
    | (go_at_call 62; (refine (HC.out _ E.out).mono ?_); rintro o w1 ⟨rfl, hb⟩; replace P := Go.Lib.hid (row_next hb P.out); replace E := Go.Lib.hid (E.out.next hb); replace hB := Go.Lib.hid (below_next hB.out hb); clear hb)
    | ((with_reducible refine wlOp (.store 116 (.tmp 5) (.tmp 12)) rfl ?_); refine wpList_store1 rfl 116 (.tmp 5) (.tmp 12) rfl w1.heap.size 0 rfl 1 (fun _ => .nilFunc) (.func (.func 87) #[] #[.pointer (some ⟨w.heap.size, 0, none⟩)]) rfl 116 size_funcB (heap_at w1 _ _ rfl) (by omega) rfl ?_; rw [vrow_over_all, setRow_at _ _ _ _ _ rfl]; have C := Go.Lib.hid (heap_at w1 (.cells (vrow 1 fun _ => .func (.func 87) #[] #[.pointer (some ⟨w.heap.size, 0, none⟩)]) 116) _ rfl); replace P := Go.Lib.hid (heap_past w1 (.cells (vrow 1 fun _ => .func (.func 87) #[] #[.pointer (some ⟨w.heap.size, 0, none⟩)]) 116) _ _ (row_lt P.out) P.out); replace hB := Go.Lib.hid (hB.out.alloc hB.out.size (.cells (vrow 1 fun _ => .func (.func 87) #[] #[.pointer (some ⟨w.heap.size, 0, none⟩)]) 116)); generalize w1.heap.size = b5 at C ⊢; generalize World.alloc w1 _ = W4 at C P hB ⊢)
    | (go_at_call 88; (refine (HCH.out _ b5 P.out C.out).mono ?_); rintro o w2 ⟨v, rfl, hO, hb⟩; have hbs := hB.out.size; replace hB := Go.Lib.hid (below_next hB.out hb); clear hb))
  go_ret2
  exact ⟨v, rfl, own_mono hbs hO, hB.out⟩
end Go.Proofs.YtmcpaangofdmpaaDoor
