import Derived.Test.YtlbafaedmagmfaaDoorDyS
import Derived.Test.YtlbafaedmagmfaaDoorPO
import Derived.Test.YtlbafaedmagmfaaDoorEqSheet
namespace Go.Proofs.YtlbafaedmagmfaaDoor
open Go.RowKit
set_option maxRecDepth 100000
set_option linter.unusedVariables false
set_option linter.unusedSimpArgs false
set_option maxRecDepth 100000 in
set_option maxHeartbeats 8000000 in
theorem dyc_walk (s : Sh) (least : Int) (n : Nat) (px py : Nat → Int) (c : Int) (e : ErrE) (w : World) (hE : Errs e w) (hn : n ≤ 1048576)
    (hS : ∀ w, Calls Tryd.prog 15 #[.agg s.row, .int .i64 least] w fun o w' => ∃ v, o = .returned (.tuple #[v, .int .i64 c]) ∧ SlP w' v n px py w'.heap.size ∧ Below w.heap.size w w')
    (hI : ∀ w, Errs e w → Calls Tryd.prog 17 #[.agg s.row, .int .i64 least] w fun o w' => ∃ v, o = .returned (.tuple #[v, .int .i64 c]) ∧ PO w' v n px py w.heap.size ∧ Below w.heap.size w w') :
    Calls Tryd.prog 3 #[.agg s.row, .int .i64 least] w fun o w' => o = .returned (.bool true) ∧ Below w.heap.size w w' := by
  have HT := Go.Lib.hid fun w => toSheet_any s w
  have HS := Go.Lib.hid hS
  have HI := Go.Lib.hid hI
  have HE := Go.Lib.hid fun v1 v2 L1 L2 w h1 h2 => eqP_any v1 v2 n L1 L2 px py w hn h1 h2
  have HM := Go.Lib.hid fun v B w hB h => markPO v n px py B w hn hB h
  have HH := Go.Lib.hid fun v w h => heldMO v n w hn h
  have hq : decide ((1 : Int) + (n : Int) * 2 < 0) = false := by simp; omega
  clear hS hI
  have E0 : Hid True := Go.Lib.hid trivial
  have G0 : Hid True := Go.Lib.hid trivial
  have hB : Hid (Below w.heap.size w (w.alloc (.cells (vrow 266 s.at) 31))) := Go.Lib.hid ((Below.refl w.heap.size w).alloc (by simp <;> omega) _)
  have P : Hid ((w.alloc (.cells (vrow 266 s.at) 31)).heap[w.heap.size]? = some (.cells (vrow 266 s.at) 31)) := heap_at _ _ _ (by simp)
  go_enter Tryd.func3, Tryd.ntmps3
  go_wp2_with (first
    | go_skip
    | ((with_reducible refine wlAt 14 rfl ?_); refine wpList_loadall rfl 31 (.tmp 2) rfl w.heap.size rfl 266 s.at 31 _ Tryd.underlying31 rfl size_lsheet P.out ?_)
    | ((with_reducible refine wlAt 21 rfl ?_); refine wpList_loadall rfl 31 (.tmp 2) rfl w.heap.size rfl 266 s.at 31 _ Tryd.underlying31 rfl size_lsheet P.out ?_)
    | ((with_reducible refine wlAt 48 rfl ?_); refine wpList_loadall rfl 31 (.tmp 2) rfl w.heap.size rfl 266 s.at 31 _ Tryd.underlying31 rfl size_lsheet P.out ?_)
    | (go_at_call 16; (refine (HT.out _).mono ?_); rintro o w1 ⟨rfl, hb⟩; (try (replace S5 := Go.Lib.hid (S5.out.next hb))); (try (replace P7 := Go.Lib.hid (P7.out.next hb))); (try (replace M7 := Go.Lib.hid (M7.out.next hb))); (try (replace P11 := Go.Lib.hid (P11.out.next hb))); (try (replace HX := Go.Lib.hid (Nat.le_trans HX.out hb.size))); replace P := Go.Lib.hid (row_next hb P.out); replace hB := Go.Lib.hid (below_next hB.out hb); clear hb)
    | (go_at_call 15; (refine (HS.out _).mono ?_); rintro o w3 ⟨v5, rfl, hS5, hb⟩; (try (replace S5 := Go.Lib.hid (S5.out.next hb))); (try (replace P7 := Go.Lib.hid (P7.out.next hb))); (try (replace M7 := Go.Lib.hid (M7.out.next hb))); (try (replace P11 := Go.Lib.hid (P11.out.next hb))); (try (replace HX := Go.Lib.hid (Nat.le_trans HX.out hb.size))); replace P := Go.Lib.hid (row_next hb P.out); replace hB := Go.Lib.hid (below_next hB.out hb); clear hb; have S5 := Go.Lib.hid hS5; clear hS5)
    | (go_at_call 17; replace G0 := G0.out; clear G0; (refine (HI.out _ (hE.next hB.out)).mono ?_); rintro o w6 ⟨v7, rfl, hP7, hb⟩; have HX := Go.Lib.hid hb.size; have hPB := row_lt P.out; replace S5 := Go.Lib.hid (S5.out.now.next hb); replace P := Go.Lib.hid (row_next hb P.out); replace hB := Go.Lib.hid (below_next hB.out hb); clear hb; have P7 := Go.Lib.hid hP7; clear hP7; generalize w1.heap.size = B7 at P7 S5 HX hPB ⊢)
    | (go_at_call 17; (refine (HI.out _ (hE.next hB.out)).mono ?_); rintro o w7 ⟨v11, rfl, hP11, hb⟩; (try (replace S5 := Go.Lib.hid (S5.out.next hb))); (try (replace P7 := Go.Lib.hid (P7.out.next hb))); (try (replace M7 := Go.Lib.hid (M7.out.next hb))); (try (replace P11 := Go.Lib.hid (P11.out.next hb))); (try (replace HX := Go.Lib.hid (Nat.le_trans HX.out hb.size))); replace P := Go.Lib.hid (row_next hb P.out); replace hB := Go.Lib.hid (below_next hB.out hb); clear hb; have P11 := Go.Lib.hid hP11; clear hP11)
    | (go_at_call 18; replace E0 := E0.out; clear E0; (refine (HE.out _ _ _ _ _ P7.out.slp S5.out).mono ?_); rintro o w8 ⟨rfl, hb⟩; (try (replace S5 := Go.Lib.hid (S5.out.next hb))); (try (replace P7 := Go.Lib.hid (P7.out.next hb))); (try (replace M7 := Go.Lib.hid (M7.out.next hb))); (try (replace P11 := Go.Lib.hid (P11.out.next hb))); (try (replace HX := Go.Lib.hid (Nat.le_trans HX.out hb.size))); replace P := Go.Lib.hid (row_next hb P.out); replace hB := Go.Lib.hid (below_next hB.out hb); clear hb)
    | (go_at_call 18; (refine (HE.out _ _ _ _ _ P11.out.slp S5.out).mono ?_); rintro o w8 ⟨rfl, hb⟩; (try (replace S5 := Go.Lib.hid (S5.out.next hb))); (try (replace P7 := Go.Lib.hid (P7.out.next hb))); (try (replace M7 := Go.Lib.hid (M7.out.next hb))); (try (replace P11 := Go.Lib.hid (P11.out.next hb))); (try (replace HX := Go.Lib.hid (Nat.le_trans HX.out hb.size))); replace P := Go.Lib.hid (row_next hb P.out); replace hB := Go.Lib.hid (below_next hB.out hb); clear hb)
    | (go_at_call 19; (refine (HM.out _ _ _ HX.out P7.out).mono ?_); rintro o w9 ⟨rfl, hM, hb⟩; replace S5 := Go.Lib.hid (S5.out.below hb); replace P := Go.Lib.hid (row_below hb hPB P.out); replace hB := Go.Lib.hid (hB.out.trans (hb.mono (by omega))); replace HX := Go.Lib.hid (Nat.le_trans HX.out hb.size); clear P7 hb; have M7 := Go.Lib.hid hM; clear hM)
    | (go_at_call 20; (refine (HH.out _ _ M7.out).mono ?_); rintro o w10 ⟨rfl, hb⟩; (try (replace S5 := Go.Lib.hid (S5.out.next hb))); (try (replace P7 := Go.Lib.hid (P7.out.next hb))); (try (replace M7 := Go.Lib.hid (M7.out.next hb))); (try (replace P11 := Go.Lib.hid (P11.out.next hb))); (try (replace HX := Go.Lib.hid (Nat.le_trans HX.out hb.size))); replace P := Go.Lib.hid (row_next hb P.out); replace hB := Go.Lib.hid (below_next hB.out hb); clear hb))
  go_ret
  exact ⟨rfl, hB.out⟩
theorem dyc_law (s : Sh) (least : Int) (e : ErrE) (w : World) (hE : Errs e w) (hf : s.fit) : Calls Tryd.prog 3 #[.agg s.row, .int .i64 least] w fun o w' => o = .returned (.bool true) ∧ Below w.heap.size w w' := by
  have po0 : ∀ (W : World) (B : Nat) (px py : Nat → Int), PO W (.slice none 0 0) 0 px py B := fun W B px py => ⟨none, 0, rfl, .inl rfl⟩
  cases ho : okI s
  · have hb0 : okB s = false := by rw [← ok_eq s hf]; exact ho
    exact dyc_walk s least 0 (fun _ => 0) (fun _ => 0) 1 e w hE (by omega) (fun w => specDC_bad s least _ _ w hf hb0) (fun w hE => (implDC_err s least 1 1 e w hE (fun w hE => ckLeast_bad s least e w hE ho) (fun w hE => codeOf_1 e w hE)).mono fun o w' ⟨h1, h2⟩ => ⟨_, h1, po0 _ _ _ _, h2⟩)
  · have hb0 : okB s = true := by rw [← ok_eq s hf]; exact ho
    cases h1 : decide (least < 1)
    · cases h2 : decide (3000 < least)
      · have hl : (decide (1 ≤ least) && decide (least ≤ 3000)) = true := by simp at h1 h2 ⊢; omega
        have hw := ho
        simp only [okI, Bool.and_eq_true, decide_eq_true_eq] at hw
        obtain ⟨⟨a1, a2⟩, ⟨a3, a4⟩, _⟩ := hw
        obtain ⟨a, ea⟩ : ∃ a : Nat, s.wide = a := ⟨s.wide.toNat, by omega⟩
        obtain ⟨c, ec⟩ : ∃ c : Nat, s.high = c := ⟨s.high.toNat, by omega⟩
        have hlen : (dyl s least a c).length ≤ 1048576 := by
          refine Nat.le_trans (fl_len _ _) ?_
          rw [cellsL_length]
          exact Nat.le_trans (Nat.mul_le_mul (show a ≤ 8 by omega) (show c ≤ 8 by omega)) (by omega)
        exact dyc_walk s least _ (lx (dyl s least a c)) (ly (dyl s least a c)) 0 e w hE hlen
          (fun w => (specDC_ok s least a c w hf hb0 hl ea ec (by omega) (by omega)).mono fun o w' ⟨v, h1, h2, h3⟩ => ⟨v, h1, (own_po h2).slp, h3⟩)
          (fun w hE => (implDC_ok s least a c e w hE hf ho ea ec (by omega) (by omega) (fun w hE => ckLeast_ok s least e w hE ho h1 h2)).mono fun o w' ⟨v, g1, g2, g3⟩ => ⟨v, g1, own_po g2, g3⟩)
      · have hl : (decide (1 ≤ least) && decide (least ≤ 3000)) = false := by simp at h1 h2 ⊢; omega
        exact dyc_walk s least 0 (fun _ => 0) (fun _ => 0) 2 e w hE (by omega) (fun w => specDC_rng s least _ _ w hf hb0 hl) (fun w hE => (implDC_err s least 2 2 e w hE (fun w hE => ckLeast_hi s least e w hE ho h1 h2) (fun w hE => codeOf_2 e w hE)).mono fun o w' ⟨h1, h2⟩ => ⟨_, h1, po0 _ _ _ _, h2⟩)
    · have hl : (decide (1 ≤ least) && decide (least ≤ 3000)) = false := by simp at h1 ⊢; omega
      exact dyc_walk s least 0 (fun _ => 0) (fun _ => 0) 2 e w hE (by omega) (fun w => specDC_rng s least _ _ w hf hb0 hl) (fun w hE => (implDC_err s least 2 2 e w hE (fun w hE => ckLeast_lo s least e w hE ho h1) (fun w hE => codeOf_2 e w hE)).mono fun o w' ⟨h1, h2⟩ => ⟨_, h1, po0 _ _ _ _, h2⟩)
end Go.Proofs.YtlbafaedmagmfaaDoor
