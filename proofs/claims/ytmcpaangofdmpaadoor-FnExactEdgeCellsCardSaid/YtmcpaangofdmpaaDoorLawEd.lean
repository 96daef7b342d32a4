import Derived.Test.YtmcpaangofdmpaaDoorEdI
import Derived.Test.YtmcpaangofdmpaaDoorEdS
import Derived.Test.YtmcpaangofdmpaaDoorPO
import Derived.Test.YtmcpaangofdmpaaDoorFitW
import Derived.Test.YtmcpaangofdmpaaDoorEqSheet
namespace Go.Proofs.YtmcpaangofdmpaaDoor
open Go.RowKit
set_option maxRecDepth 100000
set_option linter.unusedVariables false
set_option linter.unusedSimpArgs false
set_option maxRecDepth 100000 in
set_option maxHeartbeats 8000000 in
theorem ed_walk (s : Sh) (n : Nat) (px py : Nat → Int) (c : Int) (e : ErrE) (w : World) (hE : Errs e w) (hn : n ≤ 1048576)
    (hS : ∀ w, Calls Tryd.prog 37 #[.agg s.row] w fun o w' => ∃ v, o = .returned (.tuple #[v, .int .i64 c]) ∧ SlP w' v n px py w'.heap.size ∧ Below w.heap.size w w')
    (hI : ∀ w, Errs e w → Calls Tryd.prog 38 #[.agg s.row] w fun o w' => ∃ v, o = .returned (.tuple #[v, .int .i64 c]) ∧ PO w' v n px py w.heap.size ∧ Below w.heap.size w w') :
    Calls Tryd.prog 11 #[.agg s.row] w fun o w' => o = .returned (.bool true) ∧ Below w.heap.size w w' := by
  have HT0 := Go.Lib.hid fun w => toSheet_any s w
  have HS := Go.Lib.hid hS
  have HI := Go.Lib.hid hI
  have HE := Go.Lib.hid fun v1 v2 L1 L2 w h1 h2 => eqP_any v1 v2 n L1 L2 px py w hn h1 h2
  have HM := Go.Lib.hid fun v B w hB h => markPO v n px py B w hn hB h
  have HH := Go.Lib.hid fun v w h => heldMO v n w hn h
  have hq : decide ((1 : Int) + (n : Int) * 2 < 0) = false := by simp; omega
  clear hS hI
  have E0 : Hid True := Go.Lib.hid trivial
  have G0 : Hid True := Go.Lib.hid trivial
  have hB : Hid (Below w.heap.size w (w.alloc (.cells (vrow 266 s.at) 31))) := Go.Lib.hid ((Below.refl w.heap.size w).alloc (by simp <;> omega) _)
  have P0 : Hid ((w.alloc (.cells (vrow 266 s.at) 31)).heap[w.heap.size]? = some (.cells (vrow 266 s.at) 31)) := (heap_at _ _ _ (by simp))
  go_enter Tryd.func11, Tryd.ntmps11
  go_wp2_with (first
    | go_skip
    | ((first | (with_reducible refine wlAt 12 rfl ?_) | (with_reducible refine wlAt 18 rfl ?_) | (with_reducible refine wlAt 44 rfl ?_)); refine wpList_ldm 31 (.tmp 1) rfl (by first | exact want_n rfl | exact want_g _ _ _ rfl rfl rfl) (w.heap.size) _ rfl 266 266 s.at _ rw_lsheet size_lsheet P0.out (by omega) ?_; rw [sh_row])
    | (go_at_call 13; (refine (HT0.out _).mono ?_); rintro o w1 ⟨rfl, hb⟩; (try (replace S5 := Go.Lib.hid (S5.out.next hb))); (try (replace P7 := Go.Lib.hid (P7.out.next hb))); (try (replace M7 := Go.Lib.hid (M7.out.next hb))); (try (replace P11 := Go.Lib.hid (P11.out.next hb))); (try (replace HX := Go.Lib.hid (Nat.le_trans HX.out hb.size))); replace P0 := Go.Lib.hid (row_next hb P0.out); replace hB := Go.Lib.hid (below_next hB.out hb); clear hb)
    | (go_at_call 37; (refine (HS.out _).mono ?_); rintro o w3 ⟨v5, rfl, hS5, hb⟩; (try (replace S5 := Go.Lib.hid (S5.out.next hb))); (try (replace P7 := Go.Lib.hid (P7.out.next hb))); (try (replace M7 := Go.Lib.hid (M7.out.next hb))); (try (replace P11 := Go.Lib.hid (P11.out.next hb))); (try (replace HX := Go.Lib.hid (Nat.le_trans HX.out hb.size))); replace P0 := Go.Lib.hid (row_next hb P0.out); replace hB := Go.Lib.hid (below_next hB.out hb); clear hb; have S5 := Go.Lib.hid hS5; clear hS5)
    | (go_at_call 38; replace G0 := G0.out; clear G0; have hPB := row_lt P0.out; (refine (HI.out _ (hE.next hB.out)).mono ?_); rintro o w6 ⟨v7, rfl, hP7, hb⟩; have HX := Go.Lib.hid hb.size; replace S5 := Go.Lib.hid (S5.out.now.next hb); replace P0 := Go.Lib.hid (row_next hb P0.out); replace hB := Go.Lib.hid (below_next hB.out hb); clear hb; have P7 := Go.Lib.hid hP7; clear hP7; (first | generalize w1.heap.size = B7 at P7 S5 HX hPB ⊢ | generalize Wn.heap.size = B7 at P7 S5 HX hPB ⊢))
    | (go_at_call 38; (refine (HI.out _ (hE.next hB.out)).mono ?_); rintro o w7 ⟨v11, rfl, hP11, hb⟩; (try (replace S5 := Go.Lib.hid (S5.out.next hb))); (try (replace P7 := Go.Lib.hid (P7.out.next hb))); (try (replace M7 := Go.Lib.hid (M7.out.next hb))); (try (replace P11 := Go.Lib.hid (P11.out.next hb))); (try (replace HX := Go.Lib.hid (Nat.le_trans HX.out hb.size))); replace P0 := Go.Lib.hid (row_next hb P0.out); replace hB := Go.Lib.hid (below_next hB.out hb); clear hb; have P11 := Go.Lib.hid hP11; clear hP11)
    | (go_at_call 39; replace E0 := E0.out; clear E0; (refine (HE.out _ _ _ _ _ P7.out.slp S5.out).mono ?_); rintro o w8 ⟨rfl, hb⟩; (try (replace S5 := Go.Lib.hid (S5.out.next hb))); (try (replace P7 := Go.Lib.hid (P7.out.next hb))); (try (replace M7 := Go.Lib.hid (M7.out.next hb))); (try (replace P11 := Go.Lib.hid (P11.out.next hb))); (try (replace HX := Go.Lib.hid (Nat.le_trans HX.out hb.size))); replace P0 := Go.Lib.hid (row_next hb P0.out); replace hB := Go.Lib.hid (below_next hB.out hb); clear hb)
    | (go_at_call 39; (refine (HE.out _ _ _ _ _ P11.out.slp S5.out).mono ?_); rintro o w8 ⟨rfl, hb⟩; (try (replace S5 := Go.Lib.hid (S5.out.next hb))); (try (replace P7 := Go.Lib.hid (P7.out.next hb))); (try (replace M7 := Go.Lib.hid (M7.out.next hb))); (try (replace P11 := Go.Lib.hid (P11.out.next hb))); (try (replace HX := Go.Lib.hid (Nat.le_trans HX.out hb.size))); replace P0 := Go.Lib.hid (row_next hb P0.out); replace hB := Go.Lib.hid (below_next hB.out hb); clear hb)
    | (go_at_call 40; (refine (HM.out _ _ _ HX.out P7.out).mono ?_); rintro o w9 ⟨rfl, hM, hb⟩; replace S5 := Go.Lib.hid (S5.out.below hb); replace P0 := Go.Lib.hid (row_below hb (by omega) P0.out); replace hB := Go.Lib.hid (hB.out.trans (hb.mono (by omega))); replace HX := Go.Lib.hid (Nat.le_trans HX.out hb.size); clear P7 hb; have M7 := Go.Lib.hid hM; clear hM)
    | (go_at_call 41; (refine (HH.out _ _ M7.out).mono ?_); rintro o w10 ⟨rfl, hb⟩; (try (replace S5 := Go.Lib.hid (S5.out.next hb))); (try (replace P7 := Go.Lib.hid (P7.out.next hb))); (try (replace M7 := Go.Lib.hid (M7.out.next hb))); (try (replace P11 := Go.Lib.hid (P11.out.next hb))); (try (replace HX := Go.Lib.hid (Nat.le_trans HX.out hb.size))); replace P0 := Go.Lib.hid (row_next hb P0.out); replace hB := Go.Lib.hid (below_next hB.out hb); clear hb))
  go_ret
  exact ⟨rfl, hB.out⟩
theorem ed_law (s : Sh) (e : ErrE) (w : World) (hE : Errs e w) (hf : s.fit) : Calls Tryd.prog 11 #[.agg s.row] w fun o w' => o = .returned (.bool true) ∧ Below w.heap.size w w' := by
  cases h1 : okI s
  · exact ed_walk s 0 (fun _ => 0) (fun _ => 0) 1 e w hE (by omega) (fun w => (specEd_bad s (fun _ => 0) (fun _ => 0) hf h1 w).mono fun o w' ⟨v, g1, ⟨ao, cp, g2⟩, g3⟩ => ⟨v, g1, ⟨ao, cp, g2, fun h => absurd h (by omega)⟩, g3⟩) (fun w hE => (implEd_bad s hf h1 e w hE).mono fun o w' ⟨h1, h2⟩ => ⟨_, h1, ⟨none, 0, rfl, .inl rfl⟩, h2⟩)
  · obtain ⟨a, c, ea, ec, ha, hc⟩ := fitW' s h1
    have hlen : (fl (edB s) (cellsL a c)).length ≤ 1048576 := by
      have h9 := fl_len (edB s) (cellsL a c)
      have h8 : (cellsL a c).length = a * c := cellsL_length a c
      have h7 := Nat.mul_le_mul ha.2 hc.2
      omega
    exact ed_walk s _ (lx (fl (edB s) (cellsL a c))) (ly (fl (edB s) (cellsL a c))) 0 e w hE hlen
        (fun w => (specEd_ok s a c hf h1 ea ec ha hc w).mono fun o w' ⟨v, g1, g2, g3⟩ => ⟨v, g1, (own_po g2).slp, g3⟩)
        (fun w hE => (implEd_ok s a c hf h1 ea ec ha hc e w hE).mono fun o w' ⟨v, g1, g2, g3⟩ => ⟨v, g1, own_po g2, g3⟩)
end Go.Proofs.YtmcpaangofdmpaaDoor
