import Derived.Test.YtmhgdooiokonnaaDoorDyS
import Derived.Test.YtmhgdooiokonnaaDoorSlPs
import Derived.Test.YtmhgdooiokonnaaDoorPathK
import Derived.Test.YtmhgdooiokonnaaDoorEqSheet
namespace Go.Proofs.YtmhgdooiokonnaaDoor
open Go.RowKit
set_option maxRecDepth 100000
set_option linter.unusedVariables false
set_option linter.unusedSimpArgs false
def lx (l : List Sp8) (k : Nat) : Int := if h : k < l.length then ((l[k]'h).1.1 : Int) else 0
def ly (l : List Sp8) (k : Nat) : Int := if h : k < l.length then ((l[k]'h).1.2 : Int) else 0
theorem SlP.now {w : World} {v : Value} {n : Nat} {px py : Nat → Int} {L : Nat} (h : SlP w v n px py L) : SlP w v n px py w.heap.size := by
  obtain ⟨ao, c, rfl, hr⟩ := h
  refine ⟨ao, c, rfl, fun hn => ?_⟩
  obtain ⟨D, N, f, h1, h2, h3, h4, h5⟩ := hr hn
  exact ⟨D, N, f, h1, row_lt h4, h3, h4, h5⟩
theorem SlP.below {w w' : World} {v : Value} {n : Nat} {px py : Nat → Int} {L : Nat} (h : SlP w v n px py L) (hb : Below L w w') : SlP w' v n px py L := by
  obtain ⟨ao, c, rfl, hr⟩ := h
  refine ⟨ao, c, rfl, fun hn => ?_⟩
  obtain ⟨D, N, f, h1, h2, h3, h4, h5⟩ := hr hn
  exact ⟨D, N, f, h1, h2, h3, row_below hb h2 h4, h5⟩
/-- the program's slice: of its own from B on -/
def PO (w : World) (v : Value) (n : Nat) (px py : Nat → Int) (B : Nat) : Prop := ∃ ao c, v = .slice ao n c ∧ (n = 0 ∨ ∃ g N f, ao = some ⟨g, 0, none⟩ ∧ B ≤ g ∧ n * 2 ≤ N ∧ w.heap[g]? = some (.cells (vrow N f) 42) ∧ ∀ k, k < n → vrow 2 (fun j => f (k * 2 + j)) = vrow 2 (spAt (px k) (py k)))
theorem PO.next {w w' : World} {v : Value} {n : Nat} {px py : Nat → Int} {B : Nat} (h : PO w v n px py B) (hb : Below w.heap.size w w') : PO w' v n px py B := by
  obtain ⟨ao, c, rfl, hr⟩ := h
  refine ⟨ao, c, rfl, hr.imp id ?_⟩
  rintro ⟨g, N, f, h1, h2, h3, h4, h5⟩
  exact ⟨g, N, f, h1, h2, h3, row_next hb h4, h5⟩
theorem PO.slp {w : World} {v : Value} {n : Nat} {px py : Nat → Int} {B : Nat} (h : PO w v n px py B) : SlP w v n px py w.heap.size := by
  obtain ⟨ao, c, rfl, hr⟩ := h
  refine ⟨ao, c, rfl, fun hn => ?_⟩
  rcases hr with h0 | ⟨g, N, f, h1, h2, h3, h4, h5⟩
  · omega
  · exact ⟨g, N, f, h1, row_lt h4, h3, h4, h5⟩
theorem own_po {W : World} {base : Nat} {v : Value} {l : List Sp8} (h : W.ownsRow base 42 2 v l.length (vals l)) : PO W v l.length (lx l) (ly l) base := by
  rcases h.2 with ⟨rfl, h0⟩ | ⟨g, cap, cur, rfl, hg, _, _, _, _, _⟩
  · refine ⟨none, 0, ?_, .inl h0⟩
    rw [h0]
  · obtain ⟨f, h1, h2, h3⟩ := own_row_ofB h
    refine ⟨_, _, rfl, .inr ⟨g, cap * 2, f, rfl, hg, by omega, h1, fun k hk => ?_⟩⟩
    obtain ⟨g0, g1⟩ := vals_get l k hk
    refine vrow_ext _ _ _ fun i hi => ?_
    have : i = 0 ∨ i = 1 := by omega
    rcases this with rfl | rfl
    · show f (k * 2) = _
      rw [h3 (k * 2) _ (by omega) (by rw [Nat.mul_comm]; exact g0)]
      unfold lx spAt
      rw [dif_pos hk]; rfl
    · show f (k * 2 + 1) = _
      rw [h3 (k * 2 + 1) _ (by omega) (by rw [Nat.mul_comm]; exact g1)]
      unfold ly spAt
      rw [dif_pos hk]; rfl
def MO (w : World) (v : Value) (n : Nat) : Prop := ∃ ao c, v = .slice ao n c ∧ (n = 0 ∨ ∃ g N f, ao = some ⟨g, 0, none⟩ ∧ n * 2 ≤ N ∧ w.heap[g]? = some (.cells (vrow N (mkC f 1 (n * 2))) 42))
theorem MO.next {w w' : World} {v : Value} {n : Nat} (h : MO w v n) (hb : Below w.heap.size w w') : MO w' v n := by
  obtain ⟨ao, c, rfl, hr⟩ := h
  refine ⟨ao, c, rfl, hr.imp id ?_⟩
  rintro ⟨g, N, f, h1, h3, h4⟩
  exact ⟨g, N, f, h1, h3, row_next hb h4⟩
set_option maxHeartbeats 2000000 in
theorem mark0_any (ao : Option Addr) (c : Nat) (k : Int) (w : World) : Calls Tryd.prog 23 #[.slice ao 0 c, .int .i64 k] w fun e w' => e = .returned (.int .i64 k) ∧ Below w.heap.size w w' := by
  go_enter Tryd.func23, Tryd.ntmps23
  go_wp2
  go_loopw [1, 5] (fun kv iv wr => kv = .int .i64 k ∧ iv = .int .i64 0 ∧ Below w.heap.size w wr) (fun _ _ _ => 0)
  case atStart => exact ⟨rfl, rfl, Below.refl _ _⟩
  case round =>
    obtain ⟨rfl, rfl, hB⟩ := hrel
    go_wp2
    go_ret
    exact ⟨rfl, hB⟩
set_option maxHeartbeats 2000000 in
theorem held0_any (ao : Option Addr) (c : Nat) (k : Int) (w : World) : Calls Tryd.prog 24 #[.slice ao 0 c, .int .i64 k] w fun e w' => e = .returned (.int .i64 k) ∧ Below w.heap.size w w' := by
  go_enter Tryd.func24, Tryd.ntmps24
  go_wp2
  go_loopw [1, 5] (fun kv iv wr => kv = .int .i64 k ∧ iv = .int .i64 0 ∧ Below w.heap.size w wr) (fun _ _ _ => 0)
  case atStart => exact ⟨rfl, rfl, Below.refl _ _⟩
  case round =>
    obtain ⟨rfl, rfl, hB⟩ := hrel
    go_wp2
    go_ret
    exact ⟨rfl, hB⟩
theorem markPO (v : Value) (n : Nat) (px py : Nat → Int) (B : Nat) (w : World) (hn : n ≤ 1048576) (hB : B ≤ w.heap.size) (h : PO w v n px py B) : Calls Tryd.prog 23 #[v, .int .i64 1] w fun e w' => e = .returned (.int .i64 (1 + (n : Int) * 2)) ∧ MO w' v n ∧ Below B w w' := by
  obtain ⟨ao, c, rfl, hr⟩ := h
  rcases hr with rfl | ⟨g, N, f, rfl, hg, hN, hr, _⟩
  · refine (mark0_any ao c 1 w).mono ?_
    rintro e w' ⟨rfl, hb⟩
    exact ⟨by simp, ⟨ao, c, rfl, .inl rfl⟩, hb.mono hB⟩
  · refine (markS_any g n c N f 1 w hn hN ⟨by omega, by omega⟩ hr).mono ?_
    rintro e w' ⟨rfl, rfl⟩
    exact ⟨rfl, ⟨_, _, rfl, .inr ⟨g, N, f, rfl, hN, row_set hr _⟩⟩, Below_setRow (Below.refl _ _) hg _⟩
theorem heldMO (v : Value) (n : Nat) (w : World) (hn : n ≤ 1048576) (h : MO w v n) : Calls Tryd.prog 24 #[v, .int .i64 1] w fun e w' => e = .returned (.int .i64 (1 + (n : Int) * 2)) ∧ Below w.heap.size w w' := by
  obtain ⟨ao, c, rfl, hr⟩ := h
  rcases hr with rfl | ⟨g, N, f, rfl, hN, hr⟩
  · refine (held0_any ao c 1 w).mono ?_
    rintro e w' ⟨rfl, hb⟩
    exact ⟨by simp, hb⟩
  · exact heldS_any g n c N f 1 w hn hN ⟨by omega, by omega⟩ hr
set_option maxRecDepth 100000 in
set_option maxHeartbeats 8000000 in
theorem dyc_walk (s : Sh) (least : Int) (n : Nat) (px py : Nat → Int) (c : Int) (e : ErrE) (w : World) (hE : Errs e w) (hn : n ≤ 1048576)
    (hS : ∀ w, Calls Tryd.prog 27 #[.agg s.row, .int .i64 least] w fun o w' => ∃ v, o = .returned (.tuple #[v, .int .i64 c]) ∧ SlP w' v n px py w'.heap.size ∧ Below w.heap.size w w')
    (hI : ∀ w, Errs e w → Calls Tryd.prog 28 #[.agg s.row, .int .i64 least] w fun o w' => ∃ v, o = .returned (.tuple #[v, .int .i64 c]) ∧ PO w' v n px py w.heap.size ∧ Below w.heap.size w w') :
    Calls Tryd.prog 8 #[.agg s.row, .int .i64 least] w fun o w' => o = .returned (.bool true) ∧ Below w.heap.size w w' := by
  have HT := Go.Lib.hid fun w => toSheet_any s w
  have HS := Go.Lib.hid hS
  have HI := Go.Lib.hid hI
  have HE := Go.Lib.hid fun v1 v2 L1 L2 w h1 h2 => eqP_any v1 v2 n L1 L2 px py w hn h1 h2
  have HM := Go.Lib.hid fun v B w hB h => markPO v n px py B w hn hB h
  have HH := Go.Lib.hid fun v w h => heldMO v n w hn h
  have hq : decide ((1 : Int) + (n : Int) * 2 < 0) = false := by simp; omega
  clear hS hI
  have E0 : Hid True := Go.Lib.hid trivial
  have G0 : Hid True := Go.Lib.hid trivial
  have hB : Hid (Below w.heap.size w (w.alloc (.cells (vrow 266 s.at) 31))) := Go.Lib.hid ((Below.refl w.heap.size w).alloc (by simp <;> omega) _)
  have P : Hid ((w.alloc (.cells (vrow 266 s.at) 31)).heap[w.heap.size]? = some (.cells (vrow 266 s.at) 31)) := heap_at _ _ _ (by simp)
  go_enter Tryd.func8, Tryd.ntmps8
  go_wp2_with (first
    | go_skip
    | ((with_reducible refine wlAt 14 rfl ?_); refine wpList_loadall rfl 31 (.tmp 2) rfl w.heap.size rfl 266 s.at 31 _ Tryd.underlying31 rfl size_lsheet P.out ?_)
    | ((with_reducible refine wlAt 21 rfl ?_); refine wpList_loadall rfl 31 (.tmp 2) rfl w.heap.size rfl 266 s.at 31 _ Tryd.underlying31 rfl size_lsheet P.out ?_)
    | ((with_reducible refine wlAt 48 rfl ?_); refine wpList_loadall rfl 31 (.tmp 2) rfl w.heap.size rfl 266 s.at 31 _ Tryd.underlying31 rfl size_lsheet P.out ?_)
    | (go_at_call 12; (refine (HT.out _).mono ?_); rintro o w1 ⟨rfl, hb⟩; (try (replace S5 := Go.Lib.hid (S5.out.next hb))); (try (replace P7 := Go.Lib.hid (P7.out.next hb))); (try (replace M7 := Go.Lib.hid (M7.out.next hb))); (try (replace P11 := Go.Lib.hid (P11.out.next hb))); (try (replace HX := Go.Lib.hid (Nat.le_trans HX.out hb.size))); replace P := Go.Lib.hid (row_next hb P.out); replace hB := Go.Lib.hid (below_next hB.out hb); clear hb)
    | (go_at_call 27; (refine (HS.out _).mono ?_); rintro o w3 ⟨v5, rfl, hS5, hb⟩; (try (replace S5 := Go.Lib.hid (S5.out.next hb))); (try (replace P7 := Go.Lib.hid (P7.out.next hb))); (try (replace M7 := Go.Lib.hid (M7.out.next hb))); (try (replace P11 := Go.Lib.hid (P11.out.next hb))); (try (replace HX := Go.Lib.hid (Nat.le_trans HX.out hb.size))); replace P := Go.Lib.hid (row_next hb P.out); replace hB := Go.Lib.hid (below_next hB.out hb); clear hb; have S5 := Go.Lib.hid hS5; clear hS5)
    | (go_at_call 28; replace G0 := G0.out; clear G0; (refine (HI.out _ (hE.next hB.out)).mono ?_); rintro o w6 ⟨v7, rfl, hP7, hb⟩; have HX := Go.Lib.hid hb.size; have hPB := row_lt P.out; replace S5 := Go.Lib.hid (S5.out.now.next hb); replace P := Go.Lib.hid (row_next hb P.out); replace hB := Go.Lib.hid (below_next hB.out hb); clear hb; have P7 := Go.Lib.hid hP7; clear hP7; generalize w1.heap.size = B7 at P7 S5 HX hPB ⊢)
    | (go_at_call 28; (refine (HI.out _ (hE.next hB.out)).mono ?_); rintro o w7 ⟨v11, rfl, hP11, hb⟩; (try (replace S5 := Go.Lib.hid (S5.out.next hb))); (try (replace P7 := Go.Lib.hid (P7.out.next hb))); (try (replace M7 := Go.Lib.hid (M7.out.next hb))); (try (replace P11 := Go.Lib.hid (P11.out.next hb))); (try (replace HX := Go.Lib.hid (Nat.le_trans HX.out hb.size))); replace P := Go.Lib.hid (row_next hb P.out); replace hB := Go.Lib.hid (below_next hB.out hb); clear hb; have P11 := Go.Lib.hid hP11; clear hP11)
    | (go_at_call 22; replace E0 := E0.out; clear E0; (refine (HE.out _ _ _ _ _ P7.out.slp S5.out).mono ?_); rintro o w8 ⟨rfl, hb⟩; (try (replace S5 := Go.Lib.hid (S5.out.next hb))); (try (replace P7 := Go.Lib.hid (P7.out.next hb))); (try (replace M7 := Go.Lib.hid (M7.out.next hb))); (try (replace P11 := Go.Lib.hid (P11.out.next hb))); (try (replace HX := Go.Lib.hid (Nat.le_trans HX.out hb.size))); replace P := Go.Lib.hid (row_next hb P.out); replace hB := Go.Lib.hid (below_next hB.out hb); clear hb)
    | (go_at_call 22; (refine (HE.out _ _ _ _ _ P11.out.slp S5.out).mono ?_); rintro o w8 ⟨rfl, hb⟩; (try (replace S5 := Go.Lib.hid (S5.out.next hb))); (try (replace P7 := Go.Lib.hid (P7.out.next hb))); (try (replace M7 := Go.Lib.hid (M7.out.next hb))); (try (replace P11 := Go.Lib.hid (P11.out.next hb))); (try (replace HX := Go.Lib.hid (Nat.le_trans HX.out hb.size))); replace P := Go.Lib.hid (row_next hb P.out); replace hB := Go.Lib.hid (below_next hB.out hb); clear hb)
    | (go_at_call 23; (refine (HM.out _ _ _ HX.out P7.out).mono ?_); rintro o w9 ⟨rfl, hM, hb⟩; replace S5 := Go.Lib.hid (S5.out.below hb); replace P := Go.Lib.hid (row_below hb hPB P.out); replace hB := Go.Lib.hid (hB.out.trans (hb.mono (by omega))); replace HX := Go.Lib.hid (Nat.le_trans HX.out hb.size); clear P7 hb; have M7 := Go.Lib.hid hM; clear hM)
    | (go_at_call 24; (refine (HH.out _ _ M7.out).mono ?_); rintro o w10 ⟨rfl, hb⟩; (try (replace S5 := Go.Lib.hid (S5.out.next hb))); (try (replace P7 := Go.Lib.hid (P7.out.next hb))); (try (replace M7 := Go.Lib.hid (M7.out.next hb))); (try (replace P11 := Go.Lib.hid (P11.out.next hb))); (try (replace HX := Go.Lib.hid (Nat.le_trans HX.out hb.size))); replace P := Go.Lib.hid (row_next hb P.out); replace hB := Go.Lib.hid (below_next hB.out hb); clear hb))
  go_ret
  exact ⟨rfl, hB.out⟩
theorem dyc_law (s : Sh) (least : Int) (e : ErrE) (w : World) (hE : Errs e w) (hf : s.fit) : Calls Tryd.prog 8 #[.agg s.row, .int .i64 least] w fun o w' => o = .returned (.bool true) ∧ Below w.heap.size w w' := by
  have po0 : ∀ (W : World) (B : Nat) (px py : Nat → Int), PO W (.slice none 0 0) 0 px py B := fun W B px py => ⟨none, 0, rfl, .inl rfl⟩
  cases ho : okI s
  · have hb0 : okB s = false := by rw [← ok_eq s hf]; exact ho
    exact dyc_walk s least 0 (fun _ => 0) (fun _ => 0) 1 e w hE (by omega) (fun w => specDC_bad s least _ _ w hf hb0) (fun w hE => (implDC_err s least 1 1 e w hE (fun w hE => ckLeast_bad s least e w hE ho) (fun w hE => codeOf_1 e w hE)).mono fun o w' ⟨h1, h2⟩ => ⟨_, h1, po0 _ _ _ _, h2⟩)
  · have hb0 : okB s = true := by rw [← ok_eq s hf]; exact ho
    cases h1 : decide (least < 1)
    · cases h2 : decide (3000 < least)
      · have hl : (decide (1 ≤ least) && decide (least ≤ 3000)) = true := by simp at h1 h2 ⊢; omega
        have hw := ho
        simp only [okI, Bool.and_eq_true, decide_eq_true_eq] at hw
        obtain ⟨⟨a1, a2⟩, ⟨a3, a4⟩, _⟩ := hw
        obtain ⟨a, ea⟩ : ∃ a : Nat, s.wide = a := ⟨s.wide.toNat, by omega⟩
        obtain ⟨c, ec⟩ : ∃ c : Nat, s.high = c := ⟨s.high.toNat, by omega⟩
        have hlen : (dyl s least a c).length ≤ 1048576 := by
          refine Nat.le_trans (fl_len _ _) ?_
          rw [cellsL_length]
          exact Nat.le_trans (Nat.mul_le_mul (show a ≤ 8 by omega) (show c ≤ 8 by omega)) (by omega)
        exact dyc_walk s least _ (lx (dyl s least a c)) (ly (dyl s least a c)) 0 e w hE hlen
          (fun w => (specDC_ok s least a c w hf hb0 hl ea ec (by omega) (by omega)).mono fun o w' ⟨v, h1, h2, h3⟩ => ⟨v, h1, (own_po h2).slp, h3⟩)
          (fun w hE => (implDC_ok s least a c e w hE hf ho ea ec (by omega) (by omega) (fun w hE => ckLeast_ok s least e w hE ho h1 h2)).mono fun o w' ⟨v, g1, g2, g3⟩ => ⟨v, g1, own_po g2, g3⟩)
      · have hl : (decide (1 ≤ least) && decide (least ≤ 3000)) = false := by simp at h1 h2 ⊢; omega
        exact dyc_walk s least 0 (fun _ => 0) (fun _ => 0) 2 e w hE (by omega) (fun w => specDC_rng s least _ _ w hf hb0 hl) (fun w hE => (implDC_err s least 2 2 e w hE (fun w hE => ckLeast_hi s least e w hE ho h1 h2) (fun w hE => codeOf_2 e w hE)).mono fun o w' ⟨h1, h2⟩ => ⟨_, h1, po0 _ _ _ _, h2⟩)
    · have hl : (decide (1 ≤ least) && decide (least ≤ 3000)) = false := by simp at h1 ⊢; omega
      exact dyc_walk s least 0 (fun _ => 0) (fun _ => 0) 2 e w hE (by omega) (fun w => specDC_rng s least _ _ w hf hb0 hl) (fun w hE => (implDC_err s least 2 2 e w hE (fun w hE => ckLeast_lo s least e w hE ho h1) (fun w hE => codeOf_2 e w hE)).mono fun o w' ⟨h1, h2⟩ => ⟨_, h1, po0 _ _ _ _, h2⟩)
end Go.Proofs.YtmhgdooiokonnaaDoor
