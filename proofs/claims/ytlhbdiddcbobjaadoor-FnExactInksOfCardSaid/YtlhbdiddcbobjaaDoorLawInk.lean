import Derived.Test.YtlhbdiddcbobjaaDoorI64S
import Derived.Test.YtlhbdiddcbobjaaDoorPCk
import Derived.Test.YtlhbdiddcbobjaaDoorLawCnt
namespace Go.Proofs.YtlhbdiddcbobjaaDoor
open Go.RowKit
set_option maxRecDepth 100000
set_option linter.unusedVariables false
set_option linter.unusedSimpArgs false
theorem specInk_bad (p : Pic) (px : Nat → Int) (hf : p.fit) (h1 : okP p = false) (w : World) : Calls Tryd.prog 30 #[.agg p.row] w fun e w' => ∃ v, e = .returned (.tuple #[v, .int .i64 1]) ∧ SlI w' v 0 px w'.heap.size ∧ Below w.heap.size w w' := by
  have HO := Go.Lib.hid fun w' h => okP_from w' p w.heap.size w' h hf (Below.refl _ _)
  rw [h1] at HO
  have hB : Hid (Below w.heap.size w (w.alloc (.cells (vrow 66 p.at) 32))) := Go.Lib.hid ((Below.refl w.heap.size w).alloc (by simp <;> omega) _)
  have P : Hid ((w.alloc (.cells (vrow 66 p.at) 32)).heap[w.heap.size]? = some (.cells (vrow 66 p.at) 32)) := heap_at _ _ _ (by simp)
  go_enter Tryd.func30, Tryd.ntmps30
  go_wp2_with (first
    | go_skip
    | (go_at_call 46; (refine (HO.out _ P.out).mono ?_); rintro e w1 ⟨rfl, hb⟩; replace P := Go.Lib.hid (row_next hb P.out); replace hB := Go.Lib.hid (below_next hB.out hb); clear hb))
  go_ret2
  exact ⟨_, rfl, ⟨_, _, rfl, fun h => absurd h (by omega)⟩, hB.out.alloc hB.out.size _⟩
theorem specInk_ok (p : Pic) (a c : Nat) (hf : p.fit) (h1 : okP p = true) (ea : p.wide = a) (ec : p.high = c) (ha : 1 ≤ a ∧ a ≤ 8) (hc : 1 ≤ c ∧ c ≤ 8) (w : World) : Calls Tryd.prog 30 #[.agg p.row] w fun e w' => ∃ v, e = .returned (.tuple #[v, .int .i64 0]) ∧ w'.ownsRow w.heap.size 2 1 v (inkT p (cellsL a c) 3).length (ivals (inkT p (cellsL a c) 3)) ∧ Below w.heap.size w w' := by
  have HO := Go.Lib.hid fun w' h => okP_from w' p w.heap.size w' h hf (Below.refl _ _)
  rw [h1] at HO
  have HL := Go.Lib.hid fun W h => links_any p w.heap.size a c W h ea ec ha hc
  clear ea ec
  have hB : Hid (Below w.heap.size w (w.alloc (.cells (vrow 66 p.at) 32))) := Go.Lib.hid ((Below.refl w.heap.size w).alloc (by simp <;> omega) _)
  have P : Hid ((w.alloc (.cells (vrow 66 p.at) 32)).heap[w.heap.size]? = some (.cells (vrow 66 p.at) 32)) := heap_at _ _ _ (by simp)
  go_enter Tryd.func30, Tryd.ntmps30
  go_wp2_with (first
    | go_skip
    | (go_at_call 46; (refine (HO.out _ P.out).mono ?_); rintro e w1 ⟨rfl, hb⟩; replace P := Go.Lib.hid (row_next hb P.out); replace hB := Go.Lib.hid (below_next hB.out hb); clear hb)
    | (go_at_call 62; (refine (HL.out _ P.out).mono ?_); rintro o w3 ⟨v, rfl, hO, hb⟩; have hbs := hB.out.size; replace hB := Go.Lib.hid (below_next hB.out hb); clear hb))
  go_ret2
  exact ⟨v, rfl, own_mono hbs hO, hB.out⟩
theorem implInk_bad (p : Pic) (hf : p.fit) (h1 : okP p = false) (e : ErrE) (w : World) (hE : Errs e w) : Calls Tryd.prog 31 #[.agg p.row] w fun o w' => o = .returned (.tuple #[.slice none 0 0, .int .i64 1]) ∧ Below w.heap.size w w' := by
  have HC := Go.Lib.hid fun w hE => ckPic_bad p hf h1 e w hE
  have HD := Go.Lib.hid fun w hE => codeOf_1 e w hE
  have hB : Hid (Below w.heap.size w (w.alloc (.cells (vrow 66 p.at) 32))) := Go.Lib.hid ((Below.refl w.heap.size w).alloc (by simp <;> omega) _)
  have P : Hid ((w.alloc (.cells (vrow 66 p.at) 32)).heap[w.heap.size]? = some (.cells (vrow 66 p.at) 32)) := heap_at _ _ _ (by simp)
  go_enter Tryd.func31, Tryd.ntmps31
  go_wp2_with (first
    | go_skip
    | ((with_reducible refine wlAt 5 rfl ?_); refine wpList_ldm 32 _ rfl (by first | exact want_n rfl | exact want_g _ _ _ rfl rfl rfl) (w.heap.size) _ rfl 66 66 p.at _ rw_pic size_pic P.out (by omega) ?_; rw [pic_row])
    | (go_at_call 63; (refine (HC.out _ (hE.next hB.out)).mono ?_); rintro o w1 ⟨rfl, hb⟩; replace P := Go.Lib.hid (row_next hb P.out); replace hB := Go.Lib.hid (below_next hB.out hb); clear hb)
    | (go_at_call 51; (refine (HD.out _ (hE.next hB.out)).mono ?_); rintro o w2 ⟨rfl, hb⟩; replace P := Go.Lib.hid (row_next hb P.out); replace hB := Go.Lib.hid (below_next hB.out hb); clear hb))
  go_ret2
  exact ⟨rfl, hB.out⟩
theorem implInk_ok (p : Pic) (a c : Nat) (hf : p.fit) (h1 : okP p = true) (ea : p.wide = a) (ec : p.high = c) (ha : 1 ≤ a ∧ a ≤ 8) (hc : 1 ≤ c ∧ c ≤ 8) (e : ErrE) (w : World) (hE : Errs e w) : Calls Tryd.prog 31 #[.agg p.row] w fun o w' => ∃ v, o = .returned (.tuple #[v, .int .i64 0]) ∧ w'.ownsRow w.heap.size 2 1 v (inkT p (cellsL a c) 3).length (ivals (inkT p (cellsL a c) 3)) ∧ Below w.heap.size w w' := by
  have HC := Go.Lib.hid fun w hE => ckPic_ok p hf h1 e w hE
  have HL := Go.Lib.hid fun w => iinks_any p a c w ea ec ha.2 hc.2 fun i hi => ⟨(okP_ink hf h1 i hi).1, by have := (okP_ink hf h1 i hi).2; omega⟩
  clear ea ec
  have hB : Hid (Below w.heap.size w (w.alloc (.cells (vrow 66 p.at) 32))) := Go.Lib.hid ((Below.refl w.heap.size w).alloc (by simp <;> omega) _)
  have P : Hid ((w.alloc (.cells (vrow 66 p.at) 32)).heap[w.heap.size]? = some (.cells (vrow 66 p.at) 32)) := heap_at _ _ _ (by simp)
  go_enter Tryd.func31, Tryd.ntmps31
  go_wp2_with (first
    | go_skip
    | ((with_reducible refine wlAt 5 rfl ?_); refine wpList_ldm 32 _ rfl (by first | exact want_n rfl | exact want_g _ _ _ rfl rfl rfl) (w.heap.size) _ rfl 66 66 p.at _ rw_pic size_pic P.out (by omega) ?_; rw [pic_row])
    | ((with_reducible refine wlAt 11 rfl ?_); refine wpList_ldm 32 _ rfl (by first | exact want_n rfl | exact want_g _ _ _ rfl rfl rfl) (w.heap.size) _ rfl 66 66 p.at _ rw_pic size_pic P.out (by omega) ?_; rw [pic_row])
    | (go_at_call 63; (refine (HC.out _ (hE.next hB.out)).mono ?_); rintro o w1 ⟨rfl, hb⟩; replace P := Go.Lib.hid (row_next hb P.out); replace hB := Go.Lib.hid (below_next hB.out hb); clear hb)
    | (go_at_call 64; (refine (HL.out _).mono ?_); rintro o w3 ⟨v, rfl, hO, hb⟩; have hbs := hB.out.size; replace hB := Go.Lib.hid (below_next hB.out hb); clear hb))
  go_ret2
  exact ⟨v, rfl, own_mono hbs hO, hB.out⟩
set_option maxRecDepth 100000 in
set_option maxHeartbeats 8000000 in
theorem ink_walk (p : Pic) (n : Nat) (px : Nat → Int) (c : Int) (e : ErrE) (w : World) (hE : Errs e w) (hn : n ≤ 1048576)
    (hS : ∀ w, Calls Tryd.prog 30 #[.agg p.row] w fun o w' => ∃ v, o = .returned (.tuple #[v, .int .i64 c]) ∧ SlI w' v n px w'.heap.size ∧ Below w.heap.size w w')
    (hI : ∀ w, Errs e w → Calls Tryd.prog 31 #[.agg p.row] w fun o w' => ∃ v, o = .returned (.tuple #[v, .int .i64 c]) ∧ PI w' v n px w.heap.size ∧ Below w.heap.size w w') :
    Calls Tryd.prog 7 #[.agg p.row] w fun o w' => o = .returned (.bool true) ∧ Below w.heap.size w w' := by
  have HT := Go.Lib.hid fun w => toPicture_any p w
  have HS := Go.Lib.hid hS
  have HI := Go.Lib.hid hI
  have HE := Go.Lib.hid fun v1 v2 L1 L2 w h1 h2 => eqI_any v1 v2 n L1 L2 px w hn h1 h2
  have HM := Go.Lib.hid fun v B w hB h => markPI v n px B w hn hB h
  have HH := Go.Lib.hid fun v w h => heldMI v n w hn h
  have hq : decide ((1 : Int) + (n : Int) < 0) = false := by simp; omega
  clear hS hI
  have E0 : Hid True := Go.Lib.hid trivial
  have G0 : Hid True := Go.Lib.hid trivial
  have hB : Hid (Below w.heap.size w (w.alloc (.cells (vrow 66 p.at) 26))) := Go.Lib.hid ((Below.refl w.heap.size w).alloc (by simp <;> omega) _)
  have P : Hid ((w.alloc (.cells (vrow 66 p.at) 26)).heap[w.heap.size]? = some (.cells (vrow 66 p.at) 26)) := heap_at _ _ _ (by simp)
  go_enter Tryd.func7, Tryd.ntmps7
  go_wp2_with (first
    | go_skip
    | ((with_reducible refine wlAt 12 rfl ?_); refine wpList_ldm 26 _ rfl (by first | exact want_n rfl | exact want_g _ _ _ rfl rfl rfl) (w.heap.size) _ rfl 66 66 p.at _ rw_lpic size_lpic P.out (by omega) ?_; rw [pic_row])
    | ((with_reducible refine wlAt 18 rfl ?_); refine wpList_ldm 26 _ rfl (by first | exact want_n rfl | exact want_g _ _ _ rfl rfl rfl) (w.heap.size) _ rfl 66 66 p.at _ rw_lpic size_lpic P.out (by omega) ?_; rw [pic_row])
    | ((with_reducible refine wlAt 44 rfl ?_); refine wpList_ldm 26 _ rfl (by first | exact want_n rfl | exact want_g _ _ _ rfl rfl rfl) (w.heap.size) _ rfl 66 66 p.at _ rw_lpic size_lpic P.out (by omega) ?_; rw [pic_row])
    | (go_at_call 13; (refine (HT.out _).mono ?_); rintro o w1 ⟨rfl, hb⟩; (try (replace S5 := Go.Lib.hid (S5.out.next hb))); (try (replace P7 := Go.Lib.hid (P7.out.next hb))); (try (replace M7 := Go.Lib.hid (M7.out.next hb))); (try (replace P11 := Go.Lib.hid (P11.out.next hb))); (try (replace HX := Go.Lib.hid (Nat.le_trans HX.out hb.size))); replace P := Go.Lib.hid (row_next hb P.out); replace hB := Go.Lib.hid (below_next hB.out hb); clear hb)
    | (go_at_call 30; (refine (HS.out _).mono ?_); rintro o w3 ⟨v5, rfl, hS5, hb⟩; (try (replace S5 := Go.Lib.hid (S5.out.next hb))); (try (replace P7 := Go.Lib.hid (P7.out.next hb))); (try (replace M7 := Go.Lib.hid (M7.out.next hb))); (try (replace P11 := Go.Lib.hid (P11.out.next hb))); (try (replace HX := Go.Lib.hid (Nat.le_trans HX.out hb.size))); replace P := Go.Lib.hid (row_next hb P.out); replace hB := Go.Lib.hid (below_next hB.out hb); clear hb; have S5 := Go.Lib.hid hS5; clear hS5)
    | (go_at_call 31; replace G0 := G0.out; clear G0; (refine (HI.out _ (hE.next hB.out)).mono ?_); rintro o w6 ⟨v7, rfl, hP7, hb⟩; have HX := Go.Lib.hid hb.size; have hPB := row_lt P.out; replace S5 := Go.Lib.hid (S5.out.now.next hb); replace P := Go.Lib.hid (row_next hb P.out); replace hB := Go.Lib.hid (below_next hB.out hb); clear hb; have P7 := Go.Lib.hid hP7; clear hP7; generalize w1.heap.size = B7 at P7 S5 HX hPB ⊢)
    | (go_at_call 31; (refine (HI.out _ (hE.next hB.out)).mono ?_); rintro o w7 ⟨v11, rfl, hP11, hb⟩; (try (replace S5 := Go.Lib.hid (S5.out.next hb))); (try (replace P7 := Go.Lib.hid (P7.out.next hb))); (try (replace M7 := Go.Lib.hid (M7.out.next hb))); (try (replace P11 := Go.Lib.hid (P11.out.next hb))); (try (replace HX := Go.Lib.hid (Nat.le_trans HX.out hb.size))); replace P := Go.Lib.hid (row_next hb P.out); replace hB := Go.Lib.hid (below_next hB.out hb); clear hb; have P11 := Go.Lib.hid hP11; clear hP11)
    | (go_at_call 32; replace E0 := E0.out; clear E0; (refine (HE.out _ _ _ _ _ P7.out.slp S5.out).mono ?_); rintro o w8 ⟨rfl, hb⟩; (try (replace S5 := Go.Lib.hid (S5.out.next hb))); (try (replace P7 := Go.Lib.hid (P7.out.next hb))); (try (replace M7 := Go.Lib.hid (M7.out.next hb))); (try (replace P11 := Go.Lib.hid (P11.out.next hb))); (try (replace HX := Go.Lib.hid (Nat.le_trans HX.out hb.size))); replace P := Go.Lib.hid (row_next hb P.out); replace hB := Go.Lib.hid (below_next hB.out hb); clear hb)
    | (go_at_call 32; (refine (HE.out _ _ _ _ _ P11.out.slp S5.out).mono ?_); rintro o w8 ⟨rfl, hb⟩; (try (replace S5 := Go.Lib.hid (S5.out.next hb))); (try (replace P7 := Go.Lib.hid (P7.out.next hb))); (try (replace M7 := Go.Lib.hid (M7.out.next hb))); (try (replace P11 := Go.Lib.hid (P11.out.next hb))); (try (replace HX := Go.Lib.hid (Nat.le_trans HX.out hb.size))); replace P := Go.Lib.hid (row_next hb P.out); replace hB := Go.Lib.hid (below_next hB.out hb); clear hb)
    | (go_at_call 33; (refine (HM.out _ _ _ HX.out P7.out).mono ?_); rintro o w9 ⟨rfl, hM, hb⟩; replace S5 := Go.Lib.hid (S5.out.below hb); replace P := Go.Lib.hid (row_below hb hPB P.out); replace hB := Go.Lib.hid (hB.out.trans (hb.mono (by omega))); replace HX := Go.Lib.hid (Nat.le_trans HX.out hb.size); clear P7 hb; have M7 := Go.Lib.hid hM; clear hM)
    | (go_at_call 34; (refine (HH.out _ _ M7.out).mono ?_); rintro o w10 ⟨rfl, hb⟩; (try (replace S5 := Go.Lib.hid (S5.out.next hb))); (try (replace P7 := Go.Lib.hid (P7.out.next hb))); (try (replace M7 := Go.Lib.hid (M7.out.next hb))); (try (replace P11 := Go.Lib.hid (P11.out.next hb))); (try (replace HX := Go.Lib.hid (Nat.le_trans HX.out hb.size))); replace P := Go.Lib.hid (row_next hb P.out); replace hB := Go.Lib.hid (below_next hB.out hb); clear hb))
  go_ret
  exact ⟨rfl, hB.out⟩
theorem ink_law (p : Pic) (e : ErrE) (w : World) (hE : Errs e w) (hf : p.fit) : Calls Tryd.prog 7 #[.agg p.row] w fun o w' => o = .returned (.bool true) ∧ Below w.heap.size w w' := by
  have po0 : ∀ (W : World) (B : Nat) (px : Nat → Int), PI W (.slice none 0 0) 0 px B := fun W B px => ⟨none, 0, rfl, .inl rfl⟩
  cases h1 : okP p
  · exact ink_walk p 0 (fun _ => 0) 1 e w hE (by omega) (fun w => specInk_bad p _ hf h1 w) (fun w hE => (implInk_bad p hf h1 e w hE).mono fun o w' ⟨g1, g2⟩ => ⟨_, g1, po0 _ _ _, g2⟩)
  · obtain ⟨a, c, ea, ec, ha, hc⟩ := okP_nat h1
    exact ink_walk p _ (li (inkT p (cellsL a c) 3)) 0 e w hE (Nat.le_trans (inkT_len _ _ _) (by omega))
      (fun w => (specInk_ok p a c hf h1 ea ec ha hc w).mono fun o w' ⟨v, g1, g2, g3⟩ => ⟨v, g1, (own_pi g2).slp, g3⟩)
      (fun w hE => (implInk_ok p a c hf h1 ea ec ha hc e w hE).mono fun o w' ⟨v, g1, g2, g3⟩ => ⟨v, g1, own_pi g2, g3⟩)
end Go.Proofs.YtlhbdiddcbobjaaDoor
