import Derived.Test.YtfgcpiipndhllaaDoorImplV
import Derived.Test.YtfgcpiipndhllaaDoorPicS
import Derived.Test.YtfgcpiipndhllaaDoorLdI
namespace Go.Proofs.YtfgcpiipndhllaaDoor
open Go.RowKit
set_option maxRecDepth 100000
set_option linter.unusedVariables false
set_option linter.unusedSimpArgs false
attribute [local go_sem] Oper.semAt_some
set_option maxRecDepth 100000 in
set_option maxHeartbeats 2000000 in
theorem implVP_loop (p : Pic) (w : World) (hf : p.fit) (h1 : 1 ≤ p.wide) (h2 : p.wide ≤ 8) (h3 : 1 ≤ p.high) (h4 : p.high ≤ 8) : Calls Tryd.prog 146 #[.agg p.row] w fun e w' => e = .returned (.bool (okP p)) ∧ Below w.heap.size w w' := by
  have HZ := Go.Lib.hid (fun w => isSize_any p.wide p.high w)
  rw [sizeB_yes h1 h2 h3 h4] at HZ
  have hB : Hid (Below w.heap.size w ((w.alloc (.cells (vrow 66 p.at) 61)).alloc (.cells #[.bool false] 4))) := (((Below.refl w.heap.size w).alloc (by simp <;> omega) _).alloc (by simp <;> omega) _)
  have P : Hid (((w.alloc (.cells (vrow 66 p.at) 61)).alloc (.cells #[.bool false] 4)).heap[(w.heap.size)]? = some (.cells (vrow 66 p.at) 61)) := heap_past _ _ _ _ (by first | omega | (simp <;> omega)) (heap_at _ _ _ (by simp))
  have V : Hid (((w.alloc (.cells (vrow 66 p.at) 61)).alloc (.cells #[.bool false] 4)).heap[(w.heap.size + 1)]? = some (.cells (vrow 1 (fun _ => .bool false)) 4)) := heap_at _ _ _ (by simp)
  refine (callsIn_wide (n := 9)).1 ?_
  refine callsIn_of_wp_marks Tryd.func146 rfl trivial ?_ rfl
  simp only [Tryd.ntmps146, List.size_toArray, List.length_cons, List.length_nil, Nat.reduceAdd, Nat.reduceSub, Array.replicate_succ, Array.replicate_zero, List.push_toArray, List.append_toArray, List.nil_append, List.cons_append]
  refine wpIn_wide.2 ?_
  go_wp2_with (first
    | go_skip
    | (go_at_call 154; refine (cells_any _ _ _).mono ?_; rintro e w1 ⟨rfl, rfl⟩)
    | (refine wpList_ld1 22 _ rfl (by first | exact want_n rfl | exact want_g _ _ _ rfl rfl rfl) (w.heap.size) _ rfl 66 p.at _ rw_i8 P.out (by omega) ?_; (first | rw [Pic.at_0] | rw [Pic.at_1]))
    | (go_at_call 164; (refine (HZ.out _).mono ?_; rintro e Wn ⟨rfl, hW⟩; rw [hW] at hB P V; clear hW)))
  clear HZ
  have hn := row_lt V.out
  have c1 := heap_at (Wn.alloc (.cells #[.int .i8 8] 22)) (.cells #[.int .i8 8] 22) (Wn.heap.size + 1) (by simp)
  have c2 := heap_past (Wn.alloc (.cells #[.int .i8 8] 22)) (.cells #[.int .i8 8] 22) _ Wn.heap.size (by simp) (heap_at Wn (.cells #[.int .i8 8] 22) _ rfl)
  have hB1 : Below Wn.heap.size Wn ((Wn.alloc (.cells #[.int .i8 8] 22)).alloc (.cells #[.int .i8 8] 22)) := ((Below.refl _ _).alloc (Nat.le_refl _) _).alloc (by simp) _
  obtain ⟨W0, hW0⟩ : ∃ W0, (Wn.alloc (.cells #[.int .i8 8] 22)).alloc (.cells #[.int .i8 8] 22) = W0 := ⟨_, rfl⟩
  rw [hW0] at c1 c2 hB1 ⊢
  clear hW0
  replace P := row_next hB1 P.out; replace V := row_next hB1 V.out; replace hB := below_next hB.out hB1
  have hs0 := row_lt c1
  refine wp_cells (d := 3) (Wn.heap.size + 1) Wn.heap.size 8 8 (by omega) (by omega) rfl c1 c2
    (fun pre W => (∀ q ∈ pre, placeP p q.1.1 q.1.2 = true) ∧ W.heap[w.heap.size]? = some (.cells (vrow 66 p.at) 61) ∧ W.heap[w.heap.size + 1]? = some (.cells (vrow 1 fun _ => .bool false) 4) ∧ Below w.heap.size w W)
    (fun c _ W => c = .ret ∧ okP p = false ∧ W.heap[w.heap.size + 1]? = some (.cells (vrow 1 fun _ => .bool false) 4) ∧ Below w.heap.size w W)
    (OwnFrom.and (own_pure _) (OwnFrom.and (own_row (by omega)) (OwnFrom.and (own_row (by omega)) (ownFrom_below (Nat.le_refl _) (by omega)))))
    (fun c => OwnFrom.and (own_pure _) (OwnFrom.and (own_pure _) (OwnFrom.and (own_row (by omega)) (ownFrom_below (Nat.le_refl _) (by omega)))))
    ⟨(fun _ h => by cases h), P, V, hB⟩ ?assign ?body ?done ?stop
  case assign =>
    intro l x W K hK
    simp only [List.setIfInBounds_toArray, List.set_cons_succ, List.set_cons_zero] at hK ⊢
    have zz := zero_spotP
    gi_wp2_with (refine wpListIn_storeall rfl 33 (.tmp 3) (.tmp 14) rfl _ rfl 2 (spAt 0 0) (spAt x.1.1 x.1.2) rfl 33 size_spot (heap_at _ _ _ rfl) (fun i _ => spAt_oneP _ _ i) ?_; rw [setRow_at _ _ _ _ _ rfl])
    exact hK
  case body =>
    rintro l pre ⟨⟨x, y⟩, hx, hy⟩ Wb W Bx hK hBx R hsz ⟨hv, P, V, hB⟩ hlen
    simp only [List.setIfInBounds_toArray, List.set_cons_succ, List.set_cons_zero] at R ⊢
    replace R := Go.Lib.hid R; replace P := Go.Lib.hid P; replace V := Go.Lib.hid V; replace hB := Go.Lib.hid hB; replace hK := Go.Lib.hid hK; replace hv := Go.Lib.hid hv
    have hx' : x < 8 := hx
    have hy' : y < 8 := hy
    have hink := hf.ink (8 * y + x) (by omega)
    have HS := Go.Lib.hid fun w => shown_any p x y hx hy w
    have HH := Go.Lib.hid fun w => hasP_any p x y w
    have hpl := Go.Lib.hid (show placeP p x y = (decide (p.ink (8 * y + x) ≤ 3) && (decide (p.ink (8 * y + x) ≤ 0) || hasP p x y)) from rfl)
    have HGo := Go.Lib.hid (show placeP p x y = true → ∀ q ∈ pre ++ [(⟨(x, y), hx, hy⟩ : Sp8)], placeP p q.1.1 q.1.2 = true from fun hok q hq => by
        rcases List.mem_append.1 hq with h | h
        · exact hv.out q h
        · rw [List.mem_singleton.1 h]; exact hok)
    have HNo := Go.Lib.hid (fun h : placeP p x y = false => okP_no p hx' hy' h)
    obtain ⟨v, hvv⟩ : ∃ v, p.ink (8 * y + x) = v := ⟨_, rfl⟩
    rw [hvv] at hink hpl HS
    clear hvv hf hv
    by_cases hv3 : v ≤ 3
    · have hg1 : decide (3 < v) = false := by simp; omega
      by_cases hv0 : v = 0
      · subst hv0
        have HG := Go.Lib.hid (HGo.out (by rw [hpl.out]; simp))
        clear HGo HNo hpl HH hv3 hg1
        gi_wp2_with (first
          | ((with_reducible refine wAtI 26 rfl ?_); refine skipI 26 rfl rfl rfl ?_)
          | (refine ⟨trivial, ?_⟩; gi_at_call 179; (refine (callsFW (ro := some _) (HS.out _)).mono ?_; rintro e w1 ⟨rfl, hb⟩; replace P := Go.Lib.hid (row_next hb P.out); replace R := Go.Lib.hid (row_next hb R.out); replace V := Go.Lib.hid (row_next hb V.out); replace hB := Go.Lib.hid (below_next hB.out hb); replace hK := Go.Lib.hid (below_next hK.out hb); clear hb))
          | ((first | (with_reducible refine wAtI 15 rfl ?_) | (with_reducible refine wAtI 24 rfl ?_)); refine ldmI 61 _ rfl (by first | exact want_n rfl | exact want_g _ _ _ rfl rfl rfl) (w.heap.size) _ rfl 66 66 p.at _ rw_pic size_pic P.out (by omega) ?_; rw [pic_row])
          | ((first | (with_reducible refine wAtI 16 rfl ?_) | (with_reducible refine wAtI 25 rfl ?_)); refine ldmI 33 _ rfl (by first | exact want_n rfl | exact want_g _ _ _ rfl rfl rfl) Bx _ rfl 2 2 (spAt x y) _ rw_spot size_spot R.out (by omega) ?_; rw [sp_row]))
        exact ⟨keeps_below hK.out, Kp2.of_lt hK.out (by omega) (by omega), HG.out, P.out, V.out, hB.out⟩
      · have hg2 : (v == 0) = false := by simpa using hv0
        have hg3 : (v != 0) = true := by simpa using hv0
        have hle : decide (v ≤ 0) = false := by simp; omega
        cases hh : hasP p x y
        · have HN := Go.Lib.hid (HNo.out (by rw [hpl.out, hh, hle]; simp))
          rw [hh] at HH
          clear HGo HNo hpl hh hv3 hv0 hle
          gi_wp2_with (first
            | go_skip
            | ((with_reducible refine wOpI (.store 4 (.tmp 2) (.const (.bool false))) rfl ?_); refine wpListIn_store1 rfl 4 (.tmp 2) _ rfl (w.heap.size + 1) 0 rfl 1 (fun _ => .bool false) (.bool false) rfl 4 size_bool V.out (by omega) rfl ?_; rw [ff_row])
            | (refine ⟨trivial, ?_⟩; gi_at_call 179; (refine (callsFW (ro := some _) (HS.out _)).mono ?_; rintro e w1 ⟨rfl, hb⟩; replace P := Go.Lib.hid (row_next hb P.out); replace R := Go.Lib.hid (row_next hb R.out); replace V := Go.Lib.hid (row_next hb V.out); replace hB := Go.Lib.hid (below_next hB.out hb); replace hK := Go.Lib.hid (below_next hK.out hb); clear hb))
            | (refine ⟨trivial, ?_⟩; gi_at_call 176; (refine (callsFW (ro := some _) (HH.out _)).mono ?_; rintro e w1 ⟨rfl, hb⟩; replace P := Go.Lib.hid (row_next hb P.out); replace R := Go.Lib.hid (row_next hb R.out); replace V := Go.Lib.hid (row_next hb V.out); replace hB := Go.Lib.hid (below_next hB.out hb); replace hK := Go.Lib.hid (below_next hK.out hb); clear hb))
            | ((first | (with_reducible refine wAtI 15 rfl ?_) | (with_reducible refine wAtI 24 rfl ?_)); refine ldmI 61 _ rfl (by first | exact want_n rfl | exact want_g _ _ _ rfl rfl rfl) (w.heap.size) _ rfl 66 66 p.at _ rw_pic size_pic P.out (by omega) ?_; rw [pic_row])
            | ((first | (with_reducible refine wAtI 16 rfl ?_) | (with_reducible refine wAtI 25 rfl ?_)); refine ldmI 33 _ rfl (by first | exact want_n rfl | exact want_g _ _ _ rfl rfl rfl) Bx _ rfl 2 2 (spAt x y) _ rw_spot size_spot R.out (by omega) ?_; rw [sp_row]))
          have V' := row_set V.out (vrow 1 fun _ => .bool false)
          exact ⟨(keeps_below hK.out).trans (keeps_setRow V.out _), rfl, HN.out, V', Below_setRow hB.out (by omega) _⟩
        · have HG := Go.Lib.hid (HGo.out (by rw [hpl.out, hh]; simp [hv3]))
          rw [hh] at HH
          clear HGo HNo hpl hh hv3 hv0 hle
          gi_wp2_with (first
            | go_skip
            | (refine ⟨trivial, ?_⟩; gi_at_call 179; (refine (callsFW (ro := some _) (HS.out _)).mono ?_; rintro e w1 ⟨rfl, hb⟩; replace P := Go.Lib.hid (row_next hb P.out); replace R := Go.Lib.hid (row_next hb R.out); replace V := Go.Lib.hid (row_next hb V.out); replace hB := Go.Lib.hid (below_next hB.out hb); replace hK := Go.Lib.hid (below_next hK.out hb); clear hb))
            | (refine ⟨trivial, ?_⟩; gi_at_call 176; (refine (callsFW (ro := some _) (HH.out _)).mono ?_; rintro e w1 ⟨rfl, hb⟩; replace P := Go.Lib.hid (row_next hb P.out); replace R := Go.Lib.hid (row_next hb R.out); replace V := Go.Lib.hid (row_next hb V.out); replace hB := Go.Lib.hid (below_next hB.out hb); replace hK := Go.Lib.hid (below_next hK.out hb); clear hb))
            | ((first | (with_reducible refine wAtI 15 rfl ?_) | (with_reducible refine wAtI 24 rfl ?_)); refine ldmI 61 _ rfl (by first | exact want_n rfl | exact want_g _ _ _ rfl rfl rfl) (w.heap.size) _ rfl 66 66 p.at _ rw_pic size_pic P.out (by omega) ?_; rw [pic_row])
            | ((first | (with_reducible refine wAtI 16 rfl ?_) | (with_reducible refine wAtI 25 rfl ?_)); refine ldmI 33 _ rfl (by first | exact want_n rfl | exact want_g _ _ _ rfl rfl rfl) Bx _ rfl 2 2 (spAt x y) _ rw_spot size_spot R.out (by omega) ?_; rw [sp_row]))
          exact ⟨keeps_below hK.out, Kp2.of_lt hK.out (by omega) (by omega), HG.out, P.out, V.out, hB.out⟩
    · have hg1 : decide (3 < v) = true := by simp; omega
      have HN := Go.Lib.hid (HNo.out (by rw [hpl.out]; simp [hv3]))
      clear HGo HNo hpl HH hv3
      gi_wp2_with (first
        | ((with_reducible refine wAtI 26 rfl ?_); refine skipI 26 rfl rfl rfl ?_)
        | ((with_reducible refine wOpI (.store 4 (.tmp 2) (.const (.bool false))) rfl ?_); refine wpListIn_store1 rfl 4 (.tmp 2) _ rfl (w.heap.size + 1) 0 rfl 1 (fun _ => .bool false) (.bool false) rfl 4 size_bool V.out (by omega) rfl ?_; rw [ff_row])
        | (refine ⟨trivial, ?_⟩; gi_at_call 179; (refine (callsFW (ro := some _) (HS.out _)).mono ?_; rintro e w1 ⟨rfl, hb⟩; replace P := Go.Lib.hid (row_next hb P.out); replace R := Go.Lib.hid (row_next hb R.out); replace V := Go.Lib.hid (row_next hb V.out); replace hB := Go.Lib.hid (below_next hB.out hb); replace hK := Go.Lib.hid (below_next hK.out hb); clear hb))
        | ((first | (with_reducible refine wAtI 15 rfl ?_) | (with_reducible refine wAtI 24 rfl ?_)); refine ldmI 61 _ rfl (by first | exact want_n rfl | exact want_g _ _ _ rfl rfl rfl) (w.heap.size) _ rfl 66 66 p.at _ rw_pic size_pic P.out (by omega) ?_; rw [pic_row])
        | ((first | (with_reducible refine wAtI 16 rfl ?_) | (with_reducible refine wAtI 25 rfl ?_)); refine ldmI 33 _ rfl (by first | exact want_n rfl | exact want_g _ _ _ rfl rfl rfl) Bx _ rfl 2 2 (spAt x y) _ rw_spot size_spot R.out (by omega) ?_; rw [sp_row]))
      have V' := row_set V.out (vrow 1 fun _ => .bool false)
      exact ⟨(keeps_below hK.out).trans (keeps_setRow V.out _), rfl, HN.out, V', Below_setRow hB.out (by omega) _⟩
  case done =>
    rintro D W hD ⟨hv, P, V, hB⟩ hd
    have HR := Go.Lib.hid (okP_yes p (sizeB_yes h1 h2 h3 h4) fun x y hx hy => by
      have h := hv ⟨(x, y), hx, hy⟩ (mem_cells _)
      exact h)
    clear hv
    replace V := Go.Lib.hid V; replace hd := Go.Lib.hid hd; replace hB := Go.Lib.hid hB; replace P := Go.Lib.hid P
    go_wp2_with (refine wpList_store1 rfl 4 (.tmp 2) _ rfl (w.heap.size + 1) 0 rfl 1 (fun _ => .bool false) (.bool true) rfl 4 size_bool V.out (by omega) rfl ?_; rw [ft_row])
    have hlt := row_lt hd.out
    have V' := row_set V.out (vrow 1 fun _ => .bool true)
    refine leaveM rfl ((setRow_other _ _ D _ (by omega)).trans hd.out) (res_cell1 Tryd.results146 _ _ (w.heap.size + 1) 1 (fun _ => .bool true) _ rw_bool rfl (row_put V' (by omega)) (by omega)) ?_
    exact ⟨by rw [HR.out], below_put _ (Below_setRow hB.out (by omega) _) (by omega) (by simp; omega)⟩
  case stop =>
    rintro D c pre W hD ⟨rfl, hno, V, hB⟩ hd
    replace V := Go.Lib.hid V; replace hd := Go.Lib.hid hd; replace hB := Go.Lib.hid hB; have HR := Go.Lib.hid hno; clear hno
    go_wp2
    have hlt := row_lt hd.out
    refine leaveM rfl hd.out (res_cell1 Tryd.results146 _ _ (w.heap.size + 1) 1 (fun _ => .bool false) _ rw_bool rfl (row_put V.out (by omega)) (by omega)) ?_
    exact ⟨by rw [HR.out], below_put _ hB.out (by omega) hlt⟩
set_option maxHeartbeats 1000000 in
theorem implVP_all (p : Pic) (w : World) (hf : p.fit := by assumption) : Calls Tryd.prog 146 #[.agg p.row] w fun e w' => e = .returned (.bool (okP p)) ∧ Below w.heap.size w w' := by
  by_cases h : 1 ≤ p.wide ∧ p.wide ≤ 8 ∧ 1 ≤ p.high ∧ p.high ≤ 8
  · exact implVP_loop p w hf h.1 h.2.1 h.2.2.1 h.2.2.2
  · have h' : p.wide < 1 ∨ 8 < p.wide ∨ p.high < 1 ∨ 8 < p.high := by omega
    have HR := Go.Lib.hid (show okP p = false by simp only [okP]; rw [sizeB_no h']; rfl)
    have hf1 := hf.wide; have hf2 := hf.high
    have HZ := Go.Lib.hid (fun w => isSize_any p.wide p.high w)
    rw [sizeB_no h'] at HZ
    clear h h'
    have hB : Hid (Below w.heap.size w ((w.alloc (.cells (vrow 66 p.at) 61)).alloc (.cells #[.bool false] 4))) := (((Below.refl w.heap.size w).alloc (by simp <;> omega) _).alloc (by simp <;> omega) _)
    have P : Hid (((w.alloc (.cells (vrow 66 p.at) 61)).alloc (.cells #[.bool false] 4)).heap[(w.heap.size)]? = some (.cells (vrow 66 p.at) 61)) := heap_past _ _ _ _ (by first | omega | (simp <;> omega)) (heap_at _ _ _ (by simp))
    have V : Hid (((w.alloc (.cells (vrow 66 p.at) 61)).alloc (.cells #[.bool false] 4)).heap[(w.heap.size + 1)]? = some (.cells (vrow 1 (fun _ => .bool false)) 4)) := heap_at _ _ _ (by simp)
    go_enter Tryd.func146, Tryd.ntmps146
    go_wp2_with (first
      | (refine wpList_store1 rfl 4 (.tmp 2) _ rfl (w.heap.size + 1) 0 rfl 1 (fun _ => .bool false) (.bool false) rfl 4 size_bool V.out (by omega) rfl ?_; rw [ff_row])
      | (refine wpList_ld1 22 _ rfl (by first | exact want_n rfl | exact want_g _ _ _ rfl rfl rfl) (w.heap.size) _ rfl 66 p.at _ rw_i8 P.out (by omega) ?_; (first | rw [Pic.at_0] | rw [Pic.at_1]))
      | (go_at_call 164; (refine (HZ.out _).mono ?_; rintro e Wn ⟨rfl, hW⟩; rw [hW] at hB P V; clear hW)))
    have V' := row_set V.out (vrow 1 fun _ => .bool false)
    refine bodyPost_ret (res_cell1 Tryd.results146 _ _ (w.heap.size + 1) 1 (fun _ => .bool false) _ rw_bool rfl V' (by omega)) rfl ?_
    exact ⟨by rw [HR.out], Below_setRow hB.out (by omega) _⟩
end Go.Proofs.YtfgcpiipndhllaaDoor
