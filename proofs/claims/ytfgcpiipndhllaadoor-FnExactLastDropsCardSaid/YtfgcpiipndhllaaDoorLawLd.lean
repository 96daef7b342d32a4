import Derived.Test.YtfgcpiipndhllaaDoorPH
import Derived.Test.YtfgcpiipndhllaaDoorSamePic
namespace Go.Proofs.YtfgcpiipndhllaaDoor
open Go.RowKit
set_option maxRecDepth 100000
set_option linter.unusedVariables false
set_option linter.unusedSimpArgs false
set_option maxRecDepth 100000 in
set_option maxHeartbeats 8000000 in
theorem ld_walk (p : Pic) (D : List (Sp8 × Int)) (c : Int) (e : ErrE) (w : World) (hE : Errs e w) (hn : D.length ≤ 1048576)
    (hS : ∀ w, Calls Tryd.prog 41 #[.agg p.row] w fun o w' => ∃ v, o = .returned (.tuple #[v, .int .i64 c]) ∧ SlD w' v D w'.heap.size ∧ Below w.heap.size w w')
    (hI : ∀ w, Errs e w → Calls Tryd.prog 42 #[.agg p.row] w fun o w' => ∃ v, o = .returned (.tuple #[v, .int .i64 c]) ∧ PD w' v D w.heap.size ∧ Below w.heap.size w w') :
    Calls Tryd.prog 10 #[.agg p.row] w fun o w' => o = .returned (.bool true) ∧ Below w.heap.size w w' := by
  have HT := Go.Lib.hid fun w => toPicture_any p w
  have HS := Go.Lib.hid hS
  have HI := Go.Lib.hid hI
  have HE := Go.Lib.hid fun v1 v2 B1 B2 w h1 h2 => eqD_any v1 v2 D B1 B2 w hn h1 h2
  have HM := Go.Lib.hid fun v B w hB h => markPD v D B w hn hB h
  have HH := Go.Lib.hid fun v w h => heldMD v D.length w hn h
  have hq : decide ((1 : Int) + (D.length : Int) * 3 < 0) = false := by simp; omega
  clear hS hI
  have E0 : Hid True := Go.Lib.hid trivial
  have G0 : Hid True := Go.Lib.hid trivial
  have P : Hid ((w.alloc (.cells (vrow 66 p.at) 58)).heap[w.heap.size]? = some (.cells (vrow 66 p.at) 58)) := (heap_at _ _ _ (by simp))
  have hB : Hid (Below w.heap.size w (w.alloc (.cells (vrow 66 p.at) 58))) := Go.Lib.hid ((Below.refl w.heap.size w).alloc (by simp <;> omega) _)
  go_enter Tryd.func10, Tryd.ntmps10
  go_wp2_with (first
    | go_skip
    | ((with_reducible refine wlAt 12 rfl ?_); refine wpList_ldm 58 (.tmp 1) rfl (by first | exact want_n rfl | exact want_g _ _ _ rfl rfl rfl) (w.heap.size) _ rfl 66 66 p.at _ rw_lpic size_lpic P.out (by omega) ?_; rw [pic_row])
    | ((with_reducible refine wlAt 18 rfl ?_); refine wpList_ldm 58 (.tmp 1) rfl (by first | exact want_n rfl | exact want_g _ _ _ rfl rfl rfl) (w.heap.size) _ rfl 66 66 p.at _ rw_lpic size_lpic P.out (by omega) ?_; rw [pic_row])
    | ((with_reducible refine wlAt 44 rfl ?_); refine wpList_ldm 58 (.tmp 1) rfl (by first | exact want_n rfl | exact want_g _ _ _ rfl rfl rfl) (w.heap.size) _ rfl 66 66 p.at _ rw_lpic size_lpic P.out (by omega) ?_; rw [pic_row])
    | (go_at_call 28; (refine (HT.out _).mono ?_); rintro o w1 ⟨rfl, hb⟩; (try (replace S5 := Go.Lib.hid (S5.out.next hb))); (try (replace P7 := Go.Lib.hid (P7.out.next hb))); (try (replace M7 := Go.Lib.hid (M7.out.next hb))); (try (replace P11 := Go.Lib.hid (P11.out.next hb))); (try (replace HX := Go.Lib.hid (Nat.le_trans HX.out hb.size))); replace P := Go.Lib.hid (row_next hb P.out); replace hB := Go.Lib.hid (below_next hB.out hb); clear hb)
    | (go_at_call 41; (refine (HS.out _).mono ?_); rintro o w3 ⟨v5, rfl, hS5, hb⟩; (try (replace S5 := Go.Lib.hid (S5.out.next hb))); (try (replace P7 := Go.Lib.hid (P7.out.next hb))); (try (replace M7 := Go.Lib.hid (M7.out.next hb))); (try (replace P11 := Go.Lib.hid (P11.out.next hb))); (try (replace HX := Go.Lib.hid (Nat.le_trans HX.out hb.size))); replace P := Go.Lib.hid (row_next hb P.out); replace hB := Go.Lib.hid (below_next hB.out hb); clear hb; have S5 := Go.Lib.hid hS5; clear hS5)
    | (go_at_call 42; replace G0 := G0.out; clear G0; (refine (HI.out _ (hE.next hB.out)).mono ?_); rintro o w6 ⟨v7, rfl, hP7, hb⟩; have HX := Go.Lib.hid hb.size; have hPB := row_lt P.out; replace S5 := Go.Lib.hid (S5.out.now.next hb); replace P := Go.Lib.hid (row_next hb P.out); replace hB := Go.Lib.hid (below_next hB.out hb); clear hb; have P7 := Go.Lib.hid hP7; clear hP7; generalize w1.heap.size = B7 at P7 S5 HX hPB ⊢)
    | (go_at_call 42; (refine (HI.out _ (hE.next hB.out)).mono ?_); rintro o w7 ⟨v11, rfl, hP11, hb⟩; (try (replace S5 := Go.Lib.hid (S5.out.next hb))); (try (replace P7 := Go.Lib.hid (P7.out.next hb))); (try (replace M7 := Go.Lib.hid (M7.out.next hb))); (try (replace P11 := Go.Lib.hid (P11.out.next hb))); (try (replace HX := Go.Lib.hid (Nat.le_trans HX.out hb.size))); replace P := Go.Lib.hid (row_next hb P.out); replace hB := Go.Lib.hid (below_next hB.out hb); clear hb; have P11 := Go.Lib.hid hP11; clear hP11)
    | (go_at_call 36; replace E0 := E0.out; clear E0; (refine (HE.out _ _ _ _ _ P7.out.slp S5.out).mono ?_); rintro o w8 ⟨rfl, hb⟩; (try (replace S5 := Go.Lib.hid (S5.out.next hb))); (try (replace P7 := Go.Lib.hid (P7.out.next hb))); (try (replace M7 := Go.Lib.hid (M7.out.next hb))); (try (replace P11 := Go.Lib.hid (P11.out.next hb))); (try (replace HX := Go.Lib.hid (Nat.le_trans HX.out hb.size))); replace P := Go.Lib.hid (row_next hb P.out); replace hB := Go.Lib.hid (below_next hB.out hb); clear hb)
    | (go_at_call 36; (refine (HE.out _ _ _ _ _ P11.out.slp S5.out).mono ?_); rintro o w8 ⟨rfl, hb⟩; (try (replace S5 := Go.Lib.hid (S5.out.next hb))); (try (replace P7 := Go.Lib.hid (P7.out.next hb))); (try (replace M7 := Go.Lib.hid (M7.out.next hb))); (try (replace P11 := Go.Lib.hid (P11.out.next hb))); (try (replace HX := Go.Lib.hid (Nat.le_trans HX.out hb.size))); replace P := Go.Lib.hid (row_next hb P.out); replace hB := Go.Lib.hid (below_next hB.out hb); clear hb)
    | (go_at_call 43; (refine (HM.out _ _ _ HX.out P7.out).mono ?_); rintro o w9 ⟨rfl, hM, hb⟩; replace S5 := Go.Lib.hid (S5.out.below hb); replace P := Go.Lib.hid (row_below hb hPB P.out); replace hB := Go.Lib.hid (hB.out.trans (hb.mono (by omega))); replace HX := Go.Lib.hid (Nat.le_trans HX.out hb.size); clear P7 hb; have M7 := Go.Lib.hid hM; clear hM)
    | (go_at_call 44; (refine (HH.out _ _ M7.out).mono ?_); rintro o w10 ⟨rfl, hb⟩; (try (replace S5 := Go.Lib.hid (S5.out.next hb))); (try (replace P7 := Go.Lib.hid (P7.out.next hb))); (try (replace M7 := Go.Lib.hid (M7.out.next hb))); (try (replace P11 := Go.Lib.hid (P11.out.next hb))); (try (replace HX := Go.Lib.hid (Nat.le_trans HX.out hb.size))); replace P := Go.Lib.hid (row_next hb P.out); replace hB := Go.Lib.hid (below_next hB.out hb); clear hb))
  go_ret
  exact ⟨rfl, hB.out⟩
theorem ld_law (p : Pic) (e : ErrE) (w : World) (hE : Errs e w) (hf : p.fit) : Calls Tryd.prog 10 #[.agg p.row] w fun o w' => o = .returned (.bool true) ∧ Below w.heap.size w w' := by
  have po0 : ∀ (W : World) (B : Nat), PD W (.slice none 0 0) [] B := fun W B => ⟨none, 0, rfl, .inl rfl⟩
  cases h1 : okP p
  · exact ld_walk p [] 1 e w hE (by simp) (fun w => specLd_bad p hf h1 w) (fun w hE => (implLd_bad p hf h1 e w hE).mono fun o w' ⟨g1, g2⟩ => ⟨_, g1, po0 _ _, g2⟩)
  · obtain ⟨a, c, ea, ec, ha, hc⟩ := okP_nat2 h1
    exact ld_walk p (lsL p a c (cellsL a c)) 0 e w hE (Nat.le_trans (lsL_len p a c ha.2 hc.2) (by omega))
      (fun w => specLd_ok p a c hf h1 ea ec ha hc w)
      (fun w hE => (implLd_ok p a c hf h1 ea ec ha.2 hc.2 e w hE).mono fun o w' ⟨v, g1, g2, g3⟩ => ⟨v, g1, own_pd g2, g3⟩)
end Go.Proofs.YtfgcpiipndhllaaDoor
