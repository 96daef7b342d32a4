import Derived.Test.YtfhfiaphdgfmnaaDoorWater
namespace Go.Proofs.YtfhfiaphdgfmnaaDoor
open Go.RowKit
set_option maxRecDepth 100000
set_option linter.unusedVariables false
attribute [local go_sem] Oper.semAt_some
theorem wrap2 (p q : Int) (h1 : -4000000 ≤ p ∧ p ≤ 4000000) (h2 : -32768 ≤ q ∧ q ≤ 32767) : Value.int .i64 (IntKind.i64.wrap (p + IntKind.i64.wrap q)) = Value.int .i64 (p + q) := by rw [IntWalk.i64_in q (by omega), IntWalk.i64_in (p + q) (by omega)]
set_option maxRecDepth 100000 in
set_option maxHeartbeats 2000000 in
theorem water_any (s : Sh) (w : World) (hf : s.fit) (h1 : 1 ≤ s.wide) (h2 : s.wide ≤ 8) (h3 : 1 ≤ s.high) (h4 : s.high ≤ 8) : Calls Tryd.prog 73 #[.agg s.row] w fun e w' => e = .returned (.int .i64 (psumL s (cellsL s.wide.toNat s.high.toNat))) ∧ Below w.heap.size w w' := by
  obtain ⟨a, ha⟩ : ∃ a : Nat, s.wide = a := ⟨s.wide.toNat, by omega⟩
  obtain ⟨c, hc⟩ : ∃ c : Nat, s.high = c := ⟨s.high.toNat, by omega⟩
  have ea : s.wide.toNat = a := by omega
  have ec : s.high.toNat = c := by omega
  rw [ea, ec]
  have hB : Hid (Below w.heap.size w ((w.alloc (.cells (vrow 266 s.at) 39)).alloc (.cells #[.int .i64 0] 2))) := (((Below.refl w.heap.size w).alloc (by simp <;> omega) _).alloc (by simp <;> omega) _)
  have P : Hid (((w.alloc (.cells (vrow 266 s.at) 39)).alloc (.cells #[.int .i64 0] 2)).heap[(w.heap.size)]? = some (.cells (vrow 266 s.at) 39)) := heap_past _ _ _ _ (by first | omega | (simp <;> omega)) (heap_at _ _ _ (by simp))
  have V : Hid (((w.alloc (.cells (vrow 266 s.at) 39)).alloc (.cells #[.int .i64 0] 2)).heap[(w.heap.size + 1)]? = some (.cells (vrow 1 (fun _ => .int .i64 0)) 2)) := heap_at _ _ _ (by simp)
  refine (callsIn_wide (n := 9)).1 ?_
  refine callsIn_of_wp_marks Tryd.func73 rfl trivial ?_ rfl
  simp only [Tryd.ntmps73, List.size_toArray, List.length_cons, List.length_nil, Nat.reduceAdd, Nat.reduceSub, Array.replicate_succ, Array.replicate_zero, List.push_toArray, List.append_toArray, List.nil_append, List.cons_append]
  refine wpIn_wide.2 ?_
  go_wp2_with (first
    | (refine wpList_load1 rfl 23 _ rfl (w.heap.size) _ rfl 266 s.at _ _ Tryd.underlying23 rfl P.out (by omega) ?_; (first | rw [Sh.at_0] | rw [Sh.at_1] | rw [Sh.at_wax1 _ _ (by omega)] | rw [Sh.at_wet1 _ _ (8 * y + x) (by omega) (by omega)] | rw [Sh.at_dye1 _ _ (24 * y + 3 * x) (by omega) (by omega)]); simp only [Act.put, List.setIfInBounds_toArray, List.set_cons_succ, List.set_cons_zero])
    | (go_at_call 95; refine (cells_any _ _ _).mono ?_; rintro e w1 ⟨rfl, rfl⟩))
  generalize hWn : (w.alloc (.cells s.row 39)).alloc (.cells #[.int .i64 0] 2) = Wn at hB P V ⊢
  have hws : Wn.heap.size = w.heap.size + 1 + 1 := by rw [← hWn]; simp
  clear hWn
  have hn := row_lt V.out
  have c1 := heap_at (Wn.alloc (.cells #[.int .i8 a] 23)) (.cells #[.int .i8 c] 23) (Wn.heap.size + 1) (by simp)
  have c2 := heap_past (Wn.alloc (.cells #[.int .i8 a] 23)) (.cells #[.int .i8 c] 23) _ Wn.heap.size (by simp) (heap_at Wn (.cells #[.int .i8 a] 23) _ rfl)
  have hB1 : Below Wn.heap.size Wn ((Wn.alloc (.cells #[.int .i8 a] 23)).alloc (.cells #[.int .i8 c] 23)) := ((Below.refl _ _).alloc (Nat.le_refl _) _).alloc (by simp) _
  obtain ⟨W0, hW0⟩ : ∃ W0, (Wn.alloc (.cells #[.int .i8 a] 23)).alloc (.cells #[.int .i8 c] 23) = W0 := ⟨_, rfl⟩
  rw [hW0] at c1 c2 hB1 ⊢
  clear hW0
  rw [hws] at c1 c2
  replace P := row_next hB1 P.out; replace V := row_next hB1 V.out; replace hB := below_next hB.out hB1
  have hs0 := row_lt c1
  refine wp_cells (d := 4) (w.heap.size + 1 + 1 + 1) (w.heap.size + 1 + 1) a c (by omega) (by omega) rfl c1 c2
    (fun pre W => W.heap[w.heap.size]? = some (.cells (vrow 266 s.at) 39) ∧ W.heap[w.heap.size + 1]? = some (.cells (vrow 1 fun _ => .int .i64 (psumL s pre)) 2) ∧ Below w.heap.size w W)
    (fun _ _ _ => False)
    (OwnFrom.and (own_row (by omega)) (OwnFrom.and (own_rowD (o := fun pre => .cells (vrow 1 fun _ => .int .i64 (psumL s pre)) 2) (by omega)) (ownFrom_below (Nat.le_refl _) (by omega))))
    (fun c => own_pure _)
    ⟨P, V, hB⟩ ?assign ?body ?done ?stop
  case assign =>
    intro l x W K hK
    simp only [List.setIfInBounds_toArray, List.set_cons_succ, List.set_cons_zero] at hK ⊢
    have zz := zero_spot
    gi_wp2_with (refine wpListIn_storeall rfl 105 (.tmp 4) (.tmp 10) rfl _ rfl 2 (spAt 0 0) (spAt x.1.1 x.1.2) rfl 105 size_spot (heap_at _ _ _ rfl) (fun i _ => spAt_one _ _ i) ?_; rw [setRow_at _ _ _ _ _ rfl])
    exact hK
  case body =>
    rintro l pre ⟨⟨x, y⟩, hx, hy⟩ Wb W Bx hK hBx R hsz ⟨P, V, hB⟩ hlen
    simp only [List.setIfInBounds_toArray, List.set_cons_succ, List.set_cons_zero] at R ⊢
    have hpl : pre.length ≤ 64 := by
      have : a * c ≤ 8 * 8 := Nat.mul_le_mul (by omega) (by omega)
      omega
    obtain ⟨g1, g2⟩ := psumL_bd s hf pre
    obtain ⟨g3, g4⟩ := hf.wet (8 * y + x) (by simp at hx hy; omega)
    replace hx : x < 8 := hx
    replace hy : y < 8 := hy
    have hxI : (x : Int) < 8 := by omega
    have hyI : (y : Int) < 8 := by omega
    have hap := psumL_app s pre ⟨(x, y), hx, hy⟩
    simp only at hap
    have hnum : Value.int .i64 (IntKind.i64.wrap (psumL s pre + IntKind.i64.wrap (s.wet (8 * y + x)))) = Value.int .i64 (psumL s pre + s.wet (8 * y + x)) := wrap2 _ _ (by omega) (by omega)
    replace R := Go.Lib.hid R; replace P := Go.Lib.hid P; replace V := Go.Lib.hid V; replace hB := Go.Lib.hid hB; replace hK := Go.Lib.hid hK; replace hap := Go.Lib.hid hap; replace hnum := Go.Lib.hid hnum
    gi_wp2
    refine region_tailI 11 (by kernel_rfl) (by kernel_rfl) (by kernel_rfl) ?_
    simp only [List.take_succ_cons, List.take_zero, List.drop_succ_cons, List.drop_zero]
    repeat (first
      | (refine wpStill_load1 rfl 2 _ rfl (w.heap.size + 1) _ rfl 1 (fun _ => .int .i64 (psumL s pre)) _ _ Tryd.underlying2 rfl V.out (by omega) ?_; skip; simp only [Act.put, List.setIfInBounds_toArray, List.set_cons_succ, List.set_cons_zero])
      | (refine wpStill_load1 rfl 23 _ rfl Bx _ rfl 2 (spAt x y) _ _ Tryd.underlying23 rfl R.out (by omega) ?_; (first | rw [spAt_0] | rw [spAt_1]); simp only [Act.put, List.setIfInBounds_toArray, List.set_cons_succ, List.set_cons_zero])
      | (refine wpStill_load1 rfl 24 _ rfl (w.heap.size) _ rfl 266 s.at _ _ Tryd.underlying24 rfl P.out (by omega) ?_; (first | rw [Sh.at_0] | rw [Sh.at_1] | rw [Sh.at_wax1 _ _ (by omega)] | rw [Sh.at_wet1 _ _ (8 * y + x) (by omega) (by omega)] | rw [Sh.at_dye1 _ _ (24 * y + 3 * x) (by omega) (by omega)]); simp only [Act.put, List.setIfInBounds_toArray, List.set_cons_succ, List.set_cons_zero])
      | still_step
      | (refine wpStill_step (fun K hK => ?_); go_simp; simp only [hxI, hyI, if_true]; go_simp; refine hK _ ?_; clear hK K))
    refine wpStill_nil ?_
    refine wpList_store1 rfl 2 (.tmp 3) (.tmp 21) rfl (w.heap.size + 1) 0 rfl 1 (fun _ => .int .i64 (psumL s pre)) (.int .i64 (psumL s (pre ++ [⟨(x, y), hx, hy⟩]))) (by rw [hap.out, ← hnum.out]; rfl) 2 size_i64 V.out (by omega) rfl ?_
    rw [vrow_over_all]
    refine ⟨rfl, ?_⟩
    have V' := row_set (w := W.drew) V.out (vrow 1 fun _ => .int .i64 (psumL s (pre ++ [⟨(x, y), hx, hy⟩])))
    have P' := row_set' (w := W.drew) (g := w.heap.size + 1) (by omega) P.out (vrow 1 fun _ => .int .i64 (psumL s (pre ++ [⟨(x, y), hx, hy⟩])))
    exact ⟨(keeps_below hK.out.drew).trans (keeps_setRow (W := W.drew) V.out _), (Kp2.of_lt hK.out.drew (by omega) (by omega)).setRow (by omega) (by omega) _, P', V', Below_setRow hB.out.drew (by omega) _⟩
  case done =>
    rintro D W hD ⟨P, V, hB⟩ hd
    replace V := Go.Lib.hid V; replace hd := Go.Lib.hid hd; replace hB := Go.Lib.hid hB; replace P := Go.Lib.hid P
    go_wp2_with (first | (refine wpList_load1 rfl 2 _ rfl (w.heap.size + 1) _ rfl 1 (fun _ => .int .i64 (psumL s (cellsL a c))) _ _ Tryd.underlying2 rfl V.out (by omega) ?_; skip; simp only [Act.put, List.setIfInBounds_toArray, List.set_cons_succ, List.set_cons_zero]))
    have hlt := row_lt hd.out
    refine leaveM rfl hd.out (results_tmp Tryd.results73 _ _ _) ?_
    exact ⟨rfl, below_put _ hB.out (by omega) hlt⟩
  case stop =>
    rintro D c pre W hD h hd
    exact h.elim
end Go.Proofs.YtfhfiaphdgfmnaaDoor
