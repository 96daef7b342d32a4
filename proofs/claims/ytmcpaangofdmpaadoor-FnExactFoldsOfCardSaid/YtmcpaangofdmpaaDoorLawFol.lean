import Derived.Test.YtmcpaangofdmpaaDoorFolL
import Derived.Test.YtmcpaangofdmpaaDoorPrK
import Derived.Test.YtmcpaangofdmpaaDoorEqSheet
import Derived.Test.YtmcpaangofdmpaaDoorG1
namespace Go.Proofs.YtmcpaangofdmpaaDoor
open Go.RowKit
set_option maxRecDepth 100000
set_option linter.unusedVariables false
set_option linter.unusedSimpArgs false
set_option maxRecDepth 100000 in
set_option maxHeartbeats 8000000 in
theorem fo_walk (s : Sh) (D : List (Int × Bool × Int)) (c : Int) (e : ErrE) (w : World) (hE : Errs e w) (hn : D.length ≤ 1048576)
    (hS : ∀ w, Calls Tryd.prog 24 #[.agg s.row] w fun o w' => ∃ v, o = .returned (.tuple #[v, .int .i64 c]) ∧ SlF w' v D w'.heap.size ∧ Below w.heap.size w w')
    (hI : ∀ w, Errs e w → Calls Tryd.prog 25 #[.agg s.row] w fun o w' => ∃ v, o = .returned (.tuple #[v, .int .i64 c]) ∧ PF w' v D w.heap.size ∧ Below w.heap.size w w') :
    Calls Tryd.prog 6 #[.agg s.row] w fun o w' => o = .returned (.bool true) ∧ Below w.heap.size w w' := by
  have HT := Go.Lib.hid fun w => toSheet_any s w
  have HS := Go.Lib.hid hS
  have HI := Go.Lib.hid hI
  have HE := Go.Lib.hid fun v1 v2 B1 B2 w h1 h2 => eqF_any v1 v2 D B1 B2 w hn h1 h2
  have HM := Go.Lib.hid fun v B w hB h => markPF v D B w hn hB h
  have HH := Go.Lib.hid fun v w h => heldMF v D.length w hn h
  have hq : decide ((1 : Int) + (D.length : Int) * 3 < 0) = false := by simp; omega
  clear hS hI
  have E0 : Hid True := Go.Lib.hid trivial
  have G0 : Hid True := Go.Lib.hid trivial
  have P : Hid ((w.alloc (.cells (vrow 266 s.at) 31)).heap[w.heap.size]? = some (.cells (vrow 266 s.at) 31)) := (heap_at _ _ _ (by simp))
  have hB : Hid (Below w.heap.size w (w.alloc (.cells (vrow 266 s.at) 31))) := Go.Lib.hid ((Below.refl w.heap.size w).alloc (by simp <;> omega) _)
  go_enter Tryd.func6, Tryd.ntmps6
  go_wp2_with (first
    | go_skip
    | ((with_reducible refine wlAt 12 rfl ?_); refine wpList_ldm 31 (.tmp 1) rfl (by first | exact want_n rfl | exact want_g _ _ _ rfl rfl rfl) (w.heap.size) _ rfl 266 266 s.at _ rw_lsheet size_lsheet P.out (by omega) ?_; rw [sh_row])
    | ((with_reducible refine wlAt 18 rfl ?_); refine wpList_ldm 31 (.tmp 1) rfl (by first | exact want_n rfl | exact want_g _ _ _ rfl rfl rfl) (w.heap.size) _ rfl 266 266 s.at _ rw_lsheet size_lsheet P.out (by omega) ?_; rw [sh_row])
    | ((with_reducible refine wlAt 44 rfl ?_); refine wpList_ldm 31 (.tmp 1) rfl (by first | exact want_n rfl | exact want_g _ _ _ rfl rfl rfl) (w.heap.size) _ rfl 266 266 s.at _ rw_lsheet size_lsheet P.out (by omega) ?_; rw [sh_row])
    | (go_at_call 13; (refine (HT.out _).mono ?_); rintro o w1 ⟨rfl, hb⟩; (try (replace S5 := Go.Lib.hid (S5.out.next hb))); (try (replace P7 := Go.Lib.hid (P7.out.next hb))); (try (replace M7 := Go.Lib.hid (M7.out.next hb))); (try (replace P11 := Go.Lib.hid (P11.out.next hb))); (try (replace HX := Go.Lib.hid (Nat.le_trans HX.out hb.size))); replace P := Go.Lib.hid (row_next hb P.out); replace hB := Go.Lib.hid (below_next hB.out hb); clear hb)
    | (go_at_call 24; (refine (HS.out _).mono ?_); rintro o w3 ⟨v5, rfl, hS5, hb⟩; (try (replace S5 := Go.Lib.hid (S5.out.next hb))); (try (replace P7 := Go.Lib.hid (P7.out.next hb))); (try (replace M7 := Go.Lib.hid (M7.out.next hb))); (try (replace P11 := Go.Lib.hid (P11.out.next hb))); (try (replace HX := Go.Lib.hid (Nat.le_trans HX.out hb.size))); replace P := Go.Lib.hid (row_next hb P.out); replace hB := Go.Lib.hid (below_next hB.out hb); clear hb; have S5 := Go.Lib.hid hS5; clear hS5)
    | (go_at_call 25; replace G0 := G0.out; clear G0; (refine (HI.out _ (hE.next hB.out)).mono ?_); rintro o w6 ⟨v7, rfl, hP7, hb⟩; have HX := Go.Lib.hid hb.size; have hPB := row_lt P.out; replace S5 := Go.Lib.hid (S5.out.now.next hb); replace P := Go.Lib.hid (row_next hb P.out); replace hB := Go.Lib.hid (below_next hB.out hb); clear hb; have P7 := Go.Lib.hid hP7; clear hP7; generalize w1.heap.size = B7 at P7 S5 HX hPB ⊢)
    | (go_at_call 25; (refine (HI.out _ (hE.next hB.out)).mono ?_); rintro o w7 ⟨v11, rfl, hP11, hb⟩; (try (replace S5 := Go.Lib.hid (S5.out.next hb))); (try (replace P7 := Go.Lib.hid (P7.out.next hb))); (try (replace M7 := Go.Lib.hid (M7.out.next hb))); (try (replace P11 := Go.Lib.hid (P11.out.next hb))); (try (replace HX := Go.Lib.hid (Nat.le_trans HX.out hb.size))); replace P := Go.Lib.hid (row_next hb P.out); replace hB := Go.Lib.hid (below_next hB.out hb); clear hb; have P11 := Go.Lib.hid hP11; clear hP11)
    | (go_at_call 21; replace E0 := E0.out; clear E0; (refine (HE.out _ _ _ _ _ P7.out.slp S5.out).mono ?_); rintro o w8 ⟨rfl, hb⟩; (try (replace S5 := Go.Lib.hid (S5.out.next hb))); (try (replace P7 := Go.Lib.hid (P7.out.next hb))); (try (replace M7 := Go.Lib.hid (M7.out.next hb))); (try (replace P11 := Go.Lib.hid (P11.out.next hb))); (try (replace HX := Go.Lib.hid (Nat.le_trans HX.out hb.size))); replace P := Go.Lib.hid (row_next hb P.out); replace hB := Go.Lib.hid (below_next hB.out hb); clear hb)
    | (go_at_call 21; (refine (HE.out _ _ _ _ _ P11.out.slp S5.out).mono ?_); rintro o w8 ⟨rfl, hb⟩; (try (replace S5 := Go.Lib.hid (S5.out.next hb))); (try (replace P7 := Go.Lib.hid (P7.out.next hb))); (try (replace M7 := Go.Lib.hid (M7.out.next hb))); (try (replace P11 := Go.Lib.hid (P11.out.next hb))); (try (replace HX := Go.Lib.hid (Nat.le_trans HX.out hb.size))); replace P := Go.Lib.hid (row_next hb P.out); replace hB := Go.Lib.hid (below_next hB.out hb); clear hb)
    | (go_at_call 26; (refine (HM.out _ _ _ HX.out P7.out).mono ?_); rintro o w9 ⟨rfl, hM, hb⟩; replace S5 := Go.Lib.hid (S5.out.below hb); replace P := Go.Lib.hid (row_below hb hPB P.out); replace hB := Go.Lib.hid (hB.out.trans (hb.mono (by omega))); replace HX := Go.Lib.hid (Nat.le_trans HX.out hb.size); clear P7 hb; have M7 := Go.Lib.hid hM; clear hM)
    | (go_at_call 27; (refine (HH.out _ _ M7.out).mono ?_); rintro o w10 ⟨rfl, hb⟩; (try (replace S5 := Go.Lib.hid (S5.out.next hb))); (try (replace P7 := Go.Lib.hid (P7.out.next hb))); (try (replace M7 := Go.Lib.hid (M7.out.next hb))); (try (replace P11 := Go.Lib.hid (P11.out.next hb))); (try (replace HX := Go.Lib.hid (Nat.le_trans HX.out hb.size))); replace P := Go.Lib.hid (row_next hb P.out); replace hB := Go.Lib.hid (below_next hB.out hb); clear hb))
  go_ret
  exact ⟨rfl, hB.out⟩
theorem fo_law (s : Sh) (e : ErrE) (w : World) (hE : Errs e w) (hf : s.fit) : Calls Tryd.prog 6 #[.agg s.row] w fun o w' => o = .returned (.bool true) ∧ Below w.heap.size w w' := by
  have po0 : ∀ (W : World) (B : Nat), PF W (.slice none 0 0) [] B := fun W B => ⟨none, 0, rfl, .inl rfl⟩
  cases h1 : okI s
  · exact fo_walk s [] 1 e w hE (by simp) (fun w => specFo_bad s hf h1 w) (fun w hE => (implFo_bad s hf h1 e w hE).mono fun o w' ⟨g1, g2⟩ => ⟨_, g1, po0 _ _, g2⟩)
  · obtain ⟨a, c, ea, ec, ha, hc⟩ := fitW s h1
    exact fo_walk s (folA a c) 0 e w hE (by unfold folA; rw [List.length_append, folK_len, folK_len]; omega)
      (fun w => specFo_ok s a c hf h1 ea ec ha hc w)
      (fun w hE => (implFo_ok s a c hf h1 ea ec ha hc e w hE).mono fun o w' ⟨v, g1, g2, g3⟩ => ⟨v, g1, own_pf g2, g3⟩)
end Go.Proofs.YtmcpaangofdmpaaDoor
