import Derived.Test.YtdigbikldkkhpaaStC
import Derived.Test.YtdigbikldkkhpaaLdI
import Derived.Test.YtdigbikldkkhpaaImplV
namespace Go.Proofs.Ytdigbikldkkhpaa
open Go.RowKit
set_option maxRecDepth 100000
set_option linter.unusedVariables false
set_option linter.unusedSimpArgs false
/-- a place that is no cell, and is cut out of one of the stencils -/
def beyP (st : Nat → Int) (p : Pic) (x y : Nat) : Bool := !hasP p x y && anyC st (x, y) 3
attribute [local go_sem] Oper.semAt_some
set_option maxRecDepth 100000 in
set_option maxHeartbeats 8000000 in
theorem cutB_any (p : Pic) (st : Nat → Int) (w : World) (R : Bool → Prop) (hY : ∀ x y, x < 8 → y < 8 → beyP st p x y = true → R true) (hN : (∀ x y, x < 8 → y < 8 → beyP st p x y = false) → R false) : Calls Try.prog 12 #[.agg p.row, .agg (vrow 24 (s24 st))] w fun e w' => (∃ b, e = .returned (.bool b) ∧ R b) ∧ Below w.heap.size w w' := by
  have hmf : ∀ (fn : Fn) (first cap : Array Value) (w : World), (Instr.makeFunc fn first cap).run Try.prog w = .ok (.func fn first cap) w := fun _ _ _ _ => rfl
  have HY := Go.Lib.hid hY; have HN := Go.Lib.hid hN
  clear hY hN
  have hB : Hid (Below w.heap.size w (((w.alloc (.cells (vrow 66 p.at) 27)).alloc (.cells (vrow 24 (s24 st)) 23)).alloc (.cells #[.bool false] 4))) := Go.Lib.hid ((((Below.refl w.heap.size w).alloc (by simp <;> omega) _).alloc (by simp <;> omega) _).alloc (by simp <;> omega) _)
  have P : Hid ((((w.alloc (.cells (vrow 66 p.at) 27)).alloc (.cells (vrow 24 (s24 st)) 23)).alloc (.cells #[.bool false] 4)).heap[w.heap.size]? = some (.cells (vrow 66 p.at) 27)) := heap_past _ _ _ _ (by simp <;> omega) (heap_past _ _ _ _ (by simp <;> omega) (heap_at _ _ _ (by simp)))
  have G : Hid ((((w.alloc (.cells (vrow 66 p.at) 27)).alloc (.cells (vrow 24 (s24 st)) 23)).alloc (.cells #[.bool false] 4)).heap[w.heap.size + 1]? = some (.cells (vrow 24 (s24 st)) 23)) := heap_past _ _ _ _ (by simp <;> omega) (heap_at _ _ _ (by simp))
  have V : Hid ((((w.alloc (.cells (vrow 66 p.at) 27)).alloc (.cells (vrow 24 (s24 st)) 23)).alloc (.cells #[.bool false] 4)).heap[w.heap.size + 1 + 1]? = some (.cells (vrow 1 fun _ => .bool false) 4)) := heap_at _ _ _ (by simp)
  refine (callsIn_wide (n := 9)).1 ?_
  refine callsIn_of_wp_marks Try.func12 rfl trivial ?_ rfl
  simp only [Try.ntmps12, List.size_toArray, List.length_cons, List.length_nil, Nat.reduceAdd, Nat.reduceSub, Array.replicate_succ, Array.replicate_zero, List.push_toArray, List.append_toArray, List.nil_append, List.cons_append]
  refine wpIn_wide.2 ?_
  go_wp2_with (first
    | go_skip
    | (go_at_call 17; refine (cells_any _ _ _).mono ?_; rintro e w5 ⟨rfl, rfl⟩))
  have hws : (((w.alloc (.cells (vrow 66 p.at) 27)).alloc (.cells (vrow 24 (s24 st)) 23)).alloc (.cells #[.bool false] 4)).heap.size = w.heap.size + 1 + 1 + 1 := by simp only [World.size_alloc]
  generalize hWn : (((w.alloc (.cells (vrow 66 p.at) 27)).alloc (.cells (vrow 24 (s24 st)) 23)).alloc (.cells #[.bool false] 4)) = Wn at hB P G V hws ⊢
  clear hWn
  have c1 := heap_at (Wn.alloc (.cells #[.int .i8 8] 24)) (.cells #[.int .i8 8] 24) (Wn.heap.size + 1) (by simp)
  have c2 := heap_past (Wn.alloc (.cells #[.int .i8 8] 24)) (.cells #[.int .i8 8] 24) _ Wn.heap.size (by simp) (heap_at Wn (.cells #[.int .i8 8] 24) _ rfl)
  have hB1 : Below Wn.heap.size Wn ((Wn.alloc (.cells #[.int .i8 8] 24)).alloc (.cells #[.int .i8 8] 24)) := ((Below.refl _ _).alloc (Nat.le_refl _) _).alloc (by simp) _
  obtain ⟨W0, hW0⟩ : ∃ W0, (Wn.alloc (.cells #[.int .i8 8] 24)).alloc (.cells #[.int .i8 8] 24) = W0 := ⟨_, rfl⟩
  rw [hW0] at c1 c2 hB1 ⊢
  clear hW0
  rw [hws] at c1 c2
  try simp only [hws]
  replace P := row_next hB1 P.out; replace G := row_next hB1 G.out; replace V := row_next hB1 V.out; replace hB := below_next hB.out hB1
  have hs0 := row_lt c1
  refine wp_cells (d := 5) (w.heap.size + 1 + 1 + 1 + 1) (w.heap.size + 1 + 1 + 1) 8 8 (by omega) (by omega) rfl c1 c2
    (fun pre W => (∀ q ∈ pre, beyP st p q.1.1 q.1.2 = false) ∧ W.heap[w.heap.size]? = some (.cells (vrow 66 p.at) 27) ∧ W.heap[w.heap.size + 1]? = some (.cells (vrow 24 (s24 st)) 23) ∧ W.heap[w.heap.size + 1 + 1]? = some (.cells (vrow 1 fun _ => .bool false) 4) ∧ Below w.heap.size w W)
    (fun c _ W => c = .ret ∧ R true ∧ W.heap[w.heap.size + 1 + 1]? = some (.cells (vrow 1 fun _ => .bool true) 4) ∧ Below w.heap.size w W)
    (OwnFrom.and (own_pure _) (OwnFrom.and (own_row (by omega)) (OwnFrom.and (own_row (by omega)) (OwnFrom.and (own_row (by omega)) (ownFrom_below (Nat.le_refl _) (by omega))))))
    (fun c => OwnFrom.and (own_pure _) (OwnFrom.and (own_pure _) (OwnFrom.and (own_row (by omega)) (ownFrom_below (Nat.le_refl _) (by omega)))))
    ⟨(fun _ h => by cases h), P, G, V, hB⟩ ?assign ?body ?done ?stop
  case assign =>
    intro l x W K hK
    simp only [List.setIfInBounds_toArray, List.set_cons_succ, List.set_cons_zero] at hK ⊢
    have zs := zero_spotP
    gi_wp2_with (refine wpListIn_storeall rfl 38 (.tmp 5) (.tmp 8) rfl _ rfl 2 (spAt 0 0) (spAt x.1.1 x.1.2) rfl 38 size_spot (heap_at _ _ _ rfl) (fun i _ => spAt_oneP _ _ i) ?_; rw [setRow_at _ _ _ _ _ rfl])
    exact hK
  case body =>
    rintro l pre ⟨⟨x, y⟩, hx, hy⟩ Wb W Bx hK hBx R0 hsz ⟨hv, P, G, V, hB⟩ hlen
    simp only [List.setIfInBounds_toArray, List.set_cons_succ, List.set_cons_zero] at R0 ⊢
    replace hx : x < 8 := hx
    replace hy : y < 8 := hy
    have HH0 := fun w => hasP_any p x y w
    have HC := Go.Lib.hid fun W h0 h1 => coC_any st x y (w.heap.size + 1) Bx W hx hy h0 h1
    have HY1 := HY.out x y hx hy
    have hbe : beyP st p x y = (!hasP p x y && anyC st (x, y) 3) := rfl
    have hG : beyP st p x y = false → ∀ q ∈ pre ++ [(⟨(x, y), hx, hy⟩ : Sp8)], beyP st p q.1.1 q.1.2 = false := fun hok q hq => by
      rcases List.mem_append.1 hq with h | h
      · exact hv q h
      · rw [List.mem_singleton.1 h]; exact hok
    have R := Go.Lib.hid R0
    replace P := Go.Lib.hid P; replace G := Go.Lib.hid G; replace V := Go.Lib.hid V; replace hB := Go.Lib.hid hB; replace hK := Go.Lib.hid hK
    clear R0 hv c1 c2 hB1
    cases hh : hasP p x y
    · rw [hh] at HH0 hbe
      have HH := Go.Lib.hid HH0
      clear HH0
      cases hc : anyC st (x, y) 3
      · have HG := Go.Lib.hid (hG (by rw [hbe, hc]; rfl))
        rw [hc] at HC
        clear hG HY1 hbe hh hc
        gi_wp2_with (first
          | go_skip
          | ((with_reducible refine wAtI 10 rfl ?_); refine ldmI 27 _ rfl (by first | exact want_n rfl | exact want_g _ _ _ rfl rfl rfl) (w.heap.size) _ rfl 66 66 p.at _ rw_pic size_pic P.out (by omega) ?_; rw [pic_row])
          | ((with_reducible refine wAtI 11 rfl ?_); refine ldmI 38 _ rfl (by first | exact want_n rfl | exact want_g _ _ _ rfl rfl rfl) Bx _ rfl 2 2 (spAt x y) _ rw_spot size_spot R.out (by omega) ?_; rw [sp_row])
          | (refine ⟨trivial, ?_⟩; gi_at_call 20; (refine (callsFW (ro := some _) (HH.out _)).mono ?_; rintro e w1 ⟨rfl, hb⟩; replace P := Go.Lib.hid (row_next hb P.out); replace R := Go.Lib.hid (row_next hb R.out); replace G := Go.Lib.hid (row_next hb G.out); replace V := Go.Lib.hid (row_next hb V.out); replace hB := Go.Lib.hid (below_next hB.out hb); replace hK := Go.Lib.hid (below_next hK.out hb); clear hb))
          | (refine ⟨trivial, ?_⟩; gi_at_call 21; (refine (callsFW (ro := some _) (HC.out _ G.out R.out)).mono ?_; rintro e w2 ⟨rfl, hb⟩; replace P := Go.Lib.hid (row_next hb P.out); replace R := Go.Lib.hid (row_next hb R.out); replace G := Go.Lib.hid (row_next hb G.out); replace V := Go.Lib.hid (row_next hb V.out); replace hB := Go.Lib.hid (below_next hB.out hb); replace hK := Go.Lib.hid (below_next hK.out hb); clear hb)))
        exact ⟨keeps_below hK.out, Kp2.of_lt hK.out (by omega) (by omega), HG.out, P.out, G.out, V.out, hB.out⟩
      · have HR := Go.Lib.hid (HY1 (by rw [hbe, hc]; rfl))
        rw [hc] at HC
        clear hG HY1 hbe hh hc
        gi_wp2_with (first
          | go_skip
          | ((with_reducible refine wAtI 10 rfl ?_); refine ldmI 27 _ rfl (by first | exact want_n rfl | exact want_g _ _ _ rfl rfl rfl) (w.heap.size) _ rfl 66 66 p.at _ rw_pic size_pic P.out (by omega) ?_; rw [pic_row])
          | ((with_reducible refine wAtI 11 rfl ?_); refine ldmI 38 _ rfl (by first | exact want_n rfl | exact want_g _ _ _ rfl rfl rfl) Bx _ rfl 2 2 (spAt x y) _ rw_spot size_spot R.out (by omega) ?_; rw [sp_row])
          | (refine ⟨trivial, ?_⟩; gi_at_call 20; (refine (callsFW (ro := some _) (HH.out _)).mono ?_; rintro e w1 ⟨rfl, hb⟩; replace P := Go.Lib.hid (row_next hb P.out); replace R := Go.Lib.hid (row_next hb R.out); replace G := Go.Lib.hid (row_next hb G.out); replace V := Go.Lib.hid (row_next hb V.out); replace hB := Go.Lib.hid (below_next hB.out hb); replace hK := Go.Lib.hid (below_next hK.out hb); clear hb))
          | (refine ⟨trivial, ?_⟩; gi_at_call 21; (refine (callsFW (ro := some _) (HC.out _ G.out R.out)).mono ?_; rintro e w2 ⟨rfl, hb⟩; replace P := Go.Lib.hid (row_next hb P.out); replace R := Go.Lib.hid (row_next hb R.out); replace G := Go.Lib.hid (row_next hb G.out); replace V := Go.Lib.hid (row_next hb V.out); replace hB := Go.Lib.hid (below_next hB.out hb); replace hK := Go.Lib.hid (below_next hK.out hb); clear hb))
          | ((with_reducible refine wOpI (.store 4 (.tmp 4) (.const (.bool true))) rfl ?_); refine wpListIn_store1 rfl 4 (.tmp 4) _ rfl (w.heap.size + 1 + 1) 0 rfl 1 (fun _ => .bool false) (.bool true) rfl 4 size_bool V.out (by omega) rfl ?_; rw [ft_row]))
        have V' := row_set V.out (vrow 1 fun _ => .bool true)
        exact ⟨(keeps_below hK.out).trans (keeps_setRow V.out _), rfl, HR.out, V', Below_setRow hB.out (by omega) _⟩
    · rw [hh] at HH0 hbe
      have HH := Go.Lib.hid HH0
      have HG := Go.Lib.hid (hG (by rw [hbe]; rfl))
      clear HH0 hG HY1 hbe hh HC
      gi_wp2_with (first
        | ((with_reducible refine wAtI 15 rfl ?_); refine skipI 15 rfl rfl rfl ?_)
        | ((with_reducible refine wAtI 16 rfl ?_); refine skipI 16 rfl rfl rfl ?_)
        | ((with_reducible refine wAtI 17 rfl ?_); refine skipI 17 rfl rfl rfl ?_)
        | ((with_reducible refine wAtI 10 rfl ?_); refine ldmI 27 _ rfl (by first | exact want_n rfl | exact want_g _ _ _ rfl rfl rfl) (w.heap.size) _ rfl 66 66 p.at _ rw_pic size_pic P.out (by omega) ?_; rw [pic_row])
        | ((with_reducible refine wAtI 11 rfl ?_); refine ldmI 38 _ rfl (by first | exact want_n rfl | exact want_g _ _ _ rfl rfl rfl) Bx _ rfl 2 2 (spAt x y) _ rw_spot size_spot R.out (by omega) ?_; rw [sp_row])
        | (refine ⟨trivial, ?_⟩; gi_at_call 20; (refine (callsFW (ro := some _) (HH.out _)).mono ?_; rintro e w1 ⟨rfl, hb⟩; replace P := Go.Lib.hid (row_next hb P.out); replace R := Go.Lib.hid (row_next hb R.out); replace G := Go.Lib.hid (row_next hb G.out); replace V := Go.Lib.hid (row_next hb V.out); replace hB := Go.Lib.hid (below_next hB.out hb); replace hK := Go.Lib.hid (below_next hK.out hb); clear hb)))
      exact ⟨keeps_below hK.out, Kp2.of_lt hK.out (by omega) (by omega), HG.out, P.out, G.out, V.out, hB.out⟩
  case done =>
    rintro D W hD ⟨hv, P, G, V, hB⟩ hd
    have HR := Go.Lib.hid (HN.out fun x y hx hy => hv ⟨(x, y), hx, hy⟩ (mem_cells _))
    clear hv
    replace V := Go.Lib.hid V; replace hd := Go.Lib.hid hd; replace hB := Go.Lib.hid hB
    go_wp2_with (refine wpList_store1 rfl 4 (.tmp 4) _ rfl (w.heap.size + 1 + 1) 0 rfl 1 (fun _ => .bool false) (.bool false) rfl 4 size_bool V.out (by omega) rfl ?_; rw [ff_row])
    have hlt := row_lt hd.out
    have V' := row_set V.out (vrow 1 fun _ => .bool false)
    refine leaveM rfl ((setRow_other _ _ D _ (by omega)).trans hd.out) (res_cell1 Try.results12 _ _ (w.heap.size + 1 + 1) 1 (fun _ => .bool false) _ rw_bool rfl (row_put V' (by omega)) (by omega)) ?_
    exact ⟨⟨false, rfl, HR.out⟩, below_put _ (Below_setRow hB.out (by omega) _) (by omega) (by simp; omega)⟩
  case stop =>
    rintro D c pre W hD ⟨rfl, hR, V, hB⟩ hd
    replace V := Go.Lib.hid V; replace hd := Go.Lib.hid hd; replace hB := Go.Lib.hid hB; replace hR := Go.Lib.hid hR
    go_wp2
    have hlt := row_lt hd.out
    refine leaveM rfl hd.out (res_cell1 Try.results12 _ _ (w.heap.size + 1 + 1) 1 (fun _ => .bool true) _ rw_bool rfl (row_put V.out (by omega)) (by omega)) ?_
    exact ⟨⟨true, rfl, hR.out⟩, below_put _ hB.out (by omega) hlt⟩
end Go.Proofs.Ytdigbikldkkhpaa
