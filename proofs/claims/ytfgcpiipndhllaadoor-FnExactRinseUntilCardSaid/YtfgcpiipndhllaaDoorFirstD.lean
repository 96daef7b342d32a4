import Derived.Test.YtfgcpiipndhllaaDoorBest
import Derived.Test.YtfgcpiipndhllaaDoorReaders2
namespace Go.Proofs.YtfgcpiipndhllaaDoor
open Go.RowKit
set_option maxRecDepth 100000
set_option linter.unusedVariables false
set_option linter.unusedSimpArgs false
set_option maxHeartbeats 1000000 in
theorem Dark_any (s : Sh) (b : Nat) (x y : Nat) (w : World) (hs : w.heap[b]? = some (.cells s.row 36)) (hf : s.fit) (hv : okI s = true) (hx : x < 8) (hy : y < 8) : Calls Tryd.prog 168 #[.agg #[.int .i8 x, .int .i8 y], .pointer (some ⟨b, 0, none⟩)] w fun e w' => e = .returned (.int .i64 (darkB s x y)) ∧ Below w.heap.size w w' := by
  have hd : ∀ i, i < 3 → 0 ≤ (fun i => s.dye (24 * y + 3 * x + i)) i ∧ (fun i => s.dye (24 * y + 3 * x + i)) i ≤ 1000 := by
    obtain ⟨_, hd0, hd1, hd2⟩ := ok_bounds s hv x y hx hy
    intro i hi
    have : i = 0 ∨ i = 1 ∨ i = 2 := by omega
    rcases this with rfl | rfl | rfl <;> assumption
  have HD0 := fun w => darkness_any (fun i => s.dye (24 * y + 3 * x + i)) hd w
  rw [dsum_dark] at HD0
  have HD := Go.Lib.hid HD0
  clear HD0 hd
  rw [sp_vrow]
  have hB : Hid (Below w.heap.size w (w.alloc (.cells (vrow 2 (spAt x y)) 33))) := ((Below.refl w.heap.size w).alloc (by simp <;> omega) _)
  have R : Hid ((w.alloc (.cells (vrow 2 (spAt x y)) 33)).heap[(w.heap.size)]? = some (.cells (vrow 2 (spAt x y)) 33)) := heap_at _ _ _ (by simp)
  have P : Hid ((w.alloc (.cells (vrow 2 (spAt x y)) 33)).heap[b]? = some (.cells (vrow 266 s.at) 36)) := heap_past _ _ _ _ (by first | (have := row_lt hs; omega) | (have := row_lt hs; simp <;> omega)) (hs)
  go_enter Tryd.func168, Tryd.ntmps168
  go_wp2
  (refine region_at (by kernel_rfl) (by kernel_rfl) ?_; intro W hW; rw [hW] at hB P R; clear hW; have P' := Go.Lib.hid (cls_row' P.out); have R' := Go.Lib.hid (cls_row' R.out); (repeat (first | go_big_quiet_skip | (refine wpQuiet_loadmid 26 _ rfl (by first | exact want_n rfl | exact want_g _ _ _ rfl rfl rfl) b _ rfl 266 3 s.at _ rw_d3 size_d3 P'.out (by omega) ?_; rw [Sh.at_d3 _ _ (24 * y + 3 * x) (by omega) (by omega)]; simp only [Act.put, List.setIfInBounds_toArray, List.set_cons_succ, List.set_cons_zero]) | (refine wpQuiet_load1 22 _ rfl (by first | exact want_n rfl | exact want_g _ _ _ rfl rfl rfl) (w.heap.size) _ rfl 2 (spAt x y) _ rw_i8 R'.out (by omega) ?_; (first | rw [spAt_0] | rw [spAt_1]); simp only [Act.put, List.setIfInBounds_toArray, List.set_cons_succ, List.set_cons_zero]) | go_big_quiet_step ((go_at_call 150; exact cls_call _ (fun w hw => HD.out w))))); refine wpQuiet_nil ?_; intro Wn hb; replace P := Go.Lib.hid (row_next hb P.out); replace R := Go.Lib.hid (row_next hb R.out); replace hB := Go.Lib.hid (below_next hB.out hb); clear hb P' R')
  go_wp2
  go_ret
  exact ⟨rfl, hB.out⟩
attribute [local go_sem] Oper.semAt_some
set_option maxRecDepth 100000 in
set_option maxHeartbeats 4000000 in
theorem firstDark (s : Sh) (b : Nat) (e : ErrE) (w : World) (hE : Err6 e w) (hs : w.heap[b]? = some (.cells s.row 36)) (hf : s.fit) (hv : okI s = true) (h1 : 1 ≤ s.wide) (h2 : s.wide ≤ 8) (h3 : 1 ≤ s.high) (h4 : s.high ≤ 8)
    (hV : ∀ x y, x < 8 → y < 8 → 0 ≤ (darkB s) x y ∧ (darkB s) x y ≤ 4000000) : Calls Tryd.prog 118 #[.agg s.row, .func (.func 168) #[] #[.pointer (some ⟨b, 0, none⟩)]] w fun o w' => o = .returned (firstRes (errP e 6) (best (darkB s) (cellsL s.wide.toNat s.high.toNat))) ∧ Below w.heap.size w w' := by
  obtain ⟨a, ha⟩ : ∃ a : Nat, s.wide = a := ⟨s.wide.toNat, by omega⟩
  obtain ⟨c, hc⟩ : ∃ c : Nat, s.high = c := ⟨s.high.toNat, by omega⟩
  have ea : s.wide.toNat = a := by omega
  have ec : s.high.toNat = c := by omega
  rw [ea, ec]
  have zs := zero_spot
  have HC := Go.Lib.hid fun x y w hs hx hy => Dark_any s b x y w hs hf hv hx hy
  have HV := Go.Lib.hid hV
  have BD := Go.Lib.hid (best_bd (darkB s) 4000000 (by omega) (fun x y hx hy => (hV x y hx hy).2))
  clear hV hf
  have hB : Hid (Below w.heap.size w (((((w.alloc (.cells (vrow 266 s.at) 36)).alloc (.cells #[.func (.func 168) #[] #[.pointer (some ⟨b, 0, none⟩)]] 179)).alloc (.cells (vrow 2 (spAt 0 0)) 33)).alloc (.cells (vrow 2 (spAt 0 0)) 33)).alloc (.cells #[.int .i64 0] 2))) := ((((((Below.refl w.heap.size w).alloc (by simp <;> omega) _).alloc (by simp <;> omega) _).alloc (by simp <;> omega) _).alloc (by simp <;> omega) _).alloc (by simp <;> omega) _)
  have P : Hid ((((((w.alloc (.cells (vrow 266 s.at) 36)).alloc (.cells #[.func (.func 168) #[] #[.pointer (some ⟨b, 0, none⟩)]] 179)).alloc (.cells (vrow 2 (spAt 0 0)) 33)).alloc (.cells (vrow 2 (spAt 0 0)) 33)).alloc (.cells #[.int .i64 0] 2)).heap[(w.heap.size)]? = some (.cells (vrow 266 s.at) 36)) := heap_past _ _ _ _ (by first | omega | (simp <;> omega)) (heap_past _ _ _ _ (by first | omega | (simp <;> omega)) (heap_past _ _ _ _ (by first | omega | (simp <;> omega)) (heap_past _ _ _ _ (by first | omega | (simp <;> omega)) (heap_at _ _ _ (by simp)))))
  have FN : Hid ((((((w.alloc (.cells (vrow 266 s.at) 36)).alloc (.cells #[.func (.func 168) #[] #[.pointer (some ⟨b, 0, none⟩)]] 179)).alloc (.cells (vrow 2 (spAt 0 0)) 33)).alloc (.cells (vrow 2 (spAt 0 0)) 33)).alloc (.cells #[.int .i64 0] 2)).heap[(w.heap.size + 1)]? = some (.cells (vrow 1 (fun _ => .func (.func 168) #[] #[.pointer (some ⟨b, 0, none⟩)])) 179)) := heap_past _ _ _ _ (by first | omega | (simp <;> omega)) (heap_past _ _ _ _ (by first | omega | (simp <;> omega)) (heap_past _ _ _ _ (by first | omega | (simp <;> omega)) (heap_at _ _ _ (by simp))))
  have Z : Hid ((((((w.alloc (.cells (vrow 266 s.at) 36)).alloc (.cells #[.func (.func 168) #[] #[.pointer (some ⟨b, 0, none⟩)]] 179)).alloc (.cells (vrow 2 (spAt 0 0)) 33)).alloc (.cells (vrow 2 (spAt 0 0)) 33)).alloc (.cells #[.int .i64 0] 2)).heap[(w.heap.size + 1 + 1)]? = some (.cells (vrow 2 (spAt 0 0)) 33)) := heap_past _ _ _ _ (by first | omega | (simp <;> omega)) (heap_past _ _ _ _ (by first | omega | (simp <;> omega)) (heap_at _ _ _ (by simp)))
  have V : Hid ((((((w.alloc (.cells (vrow 266 s.at) 36)).alloc (.cells #[.func (.func 168) #[] #[.pointer (some ⟨b, 0, none⟩)]] 179)).alloc (.cells (vrow 2 (spAt 0 0)) 33)).alloc (.cells (vrow 2 (spAt 0 0)) 33)).alloc (.cells #[.int .i64 0] 2)).heap[(w.heap.size + 1 + 1 + 1)]? = some (.cells (vrow 2 (spAt 0 0)) 33)) := heap_past _ _ _ _ (by first | omega | (simp <;> omega)) (heap_at _ _ _ (by simp))
  have M : Hid ((((((w.alloc (.cells (vrow 266 s.at) 36)).alloc (.cells #[.func (.func 168) #[] #[.pointer (some ⟨b, 0, none⟩)]] 179)).alloc (.cells (vrow 2 (spAt 0 0)) 33)).alloc (.cells (vrow 2 (spAt 0 0)) 33)).alloc (.cells #[.int .i64 0] 2)).heap[(w.heap.size + 1 + 1 + 1 + 1)]? = some (.cells (vrow 1 (fun _ => .int .i64 0)) 2)) := heap_at _ _ _ (by simp)
  have S : Hid ((((((w.alloc (.cells (vrow 266 s.at) 36)).alloc (.cells #[.func (.func 168) #[] #[.pointer (some ⟨b, 0, none⟩)]] 179)).alloc (.cells (vrow 2 (spAt 0 0)) 33)).alloc (.cells (vrow 2 (spAt 0 0)) 33)).alloc (.cells #[.int .i64 0] 2)).heap[b]? = some (.cells (vrow 266 s.at) 36)) := heap_past _ _ _ _ (by first | (have := row_lt hs; omega) | (have := row_lt hs; simp <;> omega)) (heap_past _ _ _ _ (by first | (have := row_lt hs; omega) | (have := row_lt hs; simp <;> omega)) (heap_past _ _ _ _ (by first | (have := row_lt hs; omega) | (have := row_lt hs; simp <;> omega)) (heap_past _ _ _ _ (by first | (have := row_lt hs; omega) | (have := row_lt hs; simp <;> omega)) (heap_past _ _ _ _ (by first | (have := row_lt hs; omega) | (have := row_lt hs; simp <;> omega)) (hs)))))
  have E : Hid (Err6 e (((((w.alloc (.cells (vrow 266 s.at) 36)).alloc (.cells #[.func (.func 168) #[] #[.pointer (some ⟨b, 0, none⟩)]] 179)).alloc (.cells (vrow 2 (spAt 0 0)) 33)).alloc (.cells (vrow 2 (spAt 0 0)) 33)).alloc (.cells #[.int .i64 0] 2))) := (((((hE).alloc _).alloc _).alloc _).alloc _).alloc _
  refine (callsIn_wide (n := 9)).1 ?_
  refine callsIn_of_wp_marks Tryd.func118 rfl trivial ?_ rfl
  simp only [Tryd.ntmps118, List.size_toArray, List.length_cons, List.length_nil, Nat.reduceAdd, Nat.reduceSub, Array.replicate_succ, Array.replicate_zero, List.push_toArray, List.append_toArray, List.nil_append, List.cons_append]
  refine wpIn_wide.2 ?_
  go_wp2_with (first
    | (refine wpList_load1 rfl 22 _ rfl (w.heap.size) _ rfl 266 s.at _ _ Tryd.underlying22 rfl P.out (by omega) ?_; (first | rw [Sh.at_0] | rw [Sh.at_1]); simp only [Act.put, List.setIfInBounds_toArray, List.set_cons_succ, List.set_cons_zero])
    | (go_at_call 154; refine (cells_any _ _ _).mono ?_; rintro e w1 ⟨rfl, rfl⟩)
    | (refine wpList_storeall rfl 33 (.tmp 7) (.tmp 11) rfl (w.heap.size + 3) rfl 2 (spAt 0 0) (spAt 0 0) rfl 33 size_spot V.out (fun i _ => spAt_one _ _ i) ?_; rw [setRow_self V.out])
    | (refine wpList_store1 rfl 2 (.tmp 8) (.const (.int .i64 0)) rfl (w.heap.size + 4) 0 rfl 1 (fun _ => .int .i64 0) (.int .i64 0) rfl 2 size_int64 M.out (by omega) rfl ?_; rw [vrow_over_all, setRow_self M.out]))
  generalize hWn : (((((w.alloc (.cells s.row 36)).alloc (.cells #[.func (.func 168) #[] #[.pointer (some ⟨b, 0, none⟩)]] 179)).alloc (.cells (vrow 2 (spAt 0 0)) 33)).alloc (.cells (vrow 2 (spAt 0 0)) 33)).alloc (.cells #[.int .i64 0] 2)) = Wn at hB P FN Z V M S E ⊢
  have hws : Wn.heap.size = w.heap.size + 1 + 1 + 1 + 1 + 1 := by rw [← hWn]; simp
  clear hWn
  have hn := row_lt S.out
  have hbs := row_lt hs
  have hgl := row_lt hE.v6
  have c1 := heap_at (Wn.alloc (.cells #[.int .i8 a] 22)) (.cells #[.int .i8 c] 22) (Wn.heap.size + 1) (by simp)
  have c2 := heap_past (Wn.alloc (.cells #[.int .i8 a] 22)) (.cells #[.int .i8 c] 22) _ Wn.heap.size (by simp) (heap_at Wn (.cells #[.int .i8 a] 22) _ rfl)
  have hB1 : Below Wn.heap.size Wn ((Wn.alloc (.cells #[.int .i8 a] 22)).alloc (.cells #[.int .i8 c] 22)) := ((Below.refl _ _).alloc (Nat.le_refl _) _).alloc (by simp) _
  obtain ⟨W0, hW0⟩ : ∃ W0, (Wn.alloc (.cells #[.int .i8 a] 22)).alloc (.cells #[.int .i8 c] 22) = W0 := ⟨_, rfl⟩
  rw [hW0] at c1 c2 hB1 ⊢
  clear hW0
  rw [hws] at c1 c2
  replace FN := row_next hB1 FN.out; replace Z := row_next hB1 Z.out; replace V := row_next hB1 V.out; replace M := row_next hB1 M.out; replace S := row_next hB1 S.out; replace hB := below_next hB.out hB1
  clear P E hB1 hws
  have hs0 := row_lt c1
  refine wp_cells (d := 9) (w.heap.size + 1 + 1 + 1 + 1 + 1 + 1) (w.heap.size + 1 + 1 + 1 + 1 + 1) a c (by omega) (by omega) rfl c1 c2
    (fun pre W => W.heap[w.heap.size + 1]? = some (.cells (vrow 1 fun _ => .func (.func 168) #[] #[.pointer (some ⟨b, 0, none⟩)]) 179) ∧ W.heap[w.heap.size + 2]? = some (.cells (vrow 2 (spAt 0 0)) 33) ∧ W.heap[w.heap.size + 3]? = some (.cells (vrow 2 (spAt (best (darkB s) pre).1.1 (best (darkB s) pre).1.2)) 33) ∧ W.heap[w.heap.size + 4]? = some (.cells (vrow 1 fun _ => .int .i64 (best (darkB s) pre).2) 2) ∧ W.heap[b]? = some (.cells (vrow 266 s.at) 36) ∧ Below w.heap.size w W)
    (fun _ _ _ => False)
    (OwnFrom.and (own_row (by omega)) (OwnFrom.and (own_row (by omega)) (OwnFrom.and (own_rowD (o := fun pre => .cells (vrow 2 (spAt (best (darkB s) pre).1.1 (best (darkB s) pre).1.2)) 33) (by omega)) (OwnFrom.and (own_rowD (o := fun pre => .cells (vrow 1 fun _ => .int .i64 (best (darkB s) pre).2) 2) (by omega)) (OwnFrom.and (own_row (by omega)) (ownFrom_below (Nat.le_refl _) (by omega)))))))
    (fun c => own_pure _)
    ⟨FN, Z, V, M, S, hB⟩ ?assign ?body ?done ?stop
  case assign =>
    intro l x W K hK
    simp only [List.setIfInBounds_toArray, List.set_cons_succ, List.set_cons_zero] at hK ⊢
    gi_wp2_with (refine wpListIn_storeall rfl 33 (.tmp 9) (.tmp 17) rfl _ rfl 2 (spAt 0 0) (spAt x.1.1 x.1.2) rfl 33 size_spot (heap_at _ _ _ rfl) (fun i _ => spAt_one _ _ i) ?_; rw [setRow_at _ _ _ _ _ rfl])
    exact hK
  case body =>
    rintro l pre ⟨⟨x, y⟩, hx, hy⟩ Wb W Bx hK hBx R hsz ⟨FN, Z, V, M, S, hB⟩ hlen
    simp only [List.setIfInBounds_toArray, List.set_cons_succ, List.set_cons_zero] at R ⊢
    obtain ⟨v1, v2⟩ := HV.out x y hx hy
    obtain ⟨g1, g2⟩ := BD.out pre
    have hap := best_app (darkB s) pre ⟨(x, y), hx, hy⟩
    generalize best (darkB s) pre = bp at *
    replace R := Go.Lib.hid R; replace FN := Go.Lib.hid FN; replace Z := Go.Lib.hid Z; replace V := Go.Lib.hid V; replace M := Go.Lib.hid M; replace S := Go.Lib.hid S; replace hB := Go.Lib.hid hB; replace hK := Go.Lib.hid hK; replace hap := Go.Lib.hid hap
    have hle := row_lt R.out
    by_cases hgt : bp.2 < (darkB s) x y
    · have hdec : decide (bp.2 < (darkB s) x y) = true := by simpa using hgt
      gi_wp2_with (first
        | (refine loadallIn rfl 33 (.tmp 9) rfl _ rfl 2 (spAt x y) 33 _ Tryd.underlying33 rfl size_spot R.out ?_)
        | (refine wpListIn_storeall rfl 33 (.tmp 7) (.tmp 24) rfl (w.heap.size + 3) rfl 2 (spAt bp.1.1 bp.1.2) (spAt x y) rfl 33 size_spot V.out (fun i _ => spAt_one _ _ i) ?_)
        | (refine wpListIn_store1 rfl 2 (.tmp 8) (.tmp 25) rfl (w.heap.size + 4) 0 rfl 1 (fun _ => .int .i64 bp.2) (.int .i64 ((darkB s) x y)) rfl 2 size_int64 (row_set' (by omega) M.out _) (by omega) rfl ?_; rw [vrow_over_all])
        | (gi_at_call 168; (refine (callsFW (ro := some _) (HC.out x y _ S.out hx hy)).mono ?_; rintro e w1 ⟨rfl, hb⟩; replace FN := Go.Lib.hid (row_next hb FN.out); replace R := Go.Lib.hid (row_next hb R.out); replace Z := Go.Lib.hid (row_next hb Z.out); replace V := Go.Lib.hid (row_next hb V.out); replace M := Go.Lib.hid (row_next hb M.out); replace S := Go.Lib.hid (row_next hb S.out); replace hB := Go.Lib.hid (below_next hB.out hb); replace hK := Go.Lib.hid (below_next hK.out hb); clear hb ))
        | (refine list_atI 18 rfl ?_; intro W hW; rw [hW] at hB hK FN R Z V M S; clear hW; have FN' := Go.Lib.hid (cls_row' FN.out); have R' := Go.Lib.hid (cls_row' R.out); have Z' := Go.Lib.hid (cls_row' Z.out); have V' := Go.Lib.hid (cls_row' V.out); have M' := Go.Lib.hid (cls_row' M.out); have S' := Go.Lib.hid (cls_row' S.out); (repeat (first | go_big_quiet_skip | (refine wpQuiet_load1 179 _ rfl (by first | exact want_n rfl | exact want_g _ _ _ rfl rfl rfl) (w.heap.size + 1) _ rfl 1 (fun _ => .func (.func 168) #[] #[.pointer (some ⟨b, 0, none⟩)]) _ rw_fn FN'.out (by omega) ?_; skip; simp only [Act.put, List.setIfInBounds_toArray, List.set_cons_succ, List.set_cons_zero]) | (refine wpQuiet_loadmid 33 _ rfl (by first | exact want_n rfl | exact want_g _ _ _ rfl rfl rfl) Bx _ rfl 2 2 (spAt x y) _ rw_spot size_spot R'.out (by omega) ?_; rw [sp_row]; simp only [Act.put, List.setIfInBounds_toArray, List.set_cons_succ, List.set_cons_zero]) | (refine wpQuiet_load1 2 _ rfl (by first | exact want_n rfl | exact want_g _ _ _ rfl rfl rfl) (w.heap.size + 4) _ rfl 1 (fun _ => .int .i64 bp.2) _ rw_int64 M'.out (by omega) ?_; skip; simp only [Act.put, List.setIfInBounds_toArray, List.set_cons_succ, List.set_cons_zero]) | go_big_quiet_step ((go_at_call 168; exact cls_call _ (fun w hw => HC.out x y w (row_next hw S.out) hx hy))))); refine wpQuiet_nil ?_; intro Wn hb; replace FN := Go.Lib.hid (row_next hb FN.out); replace R := Go.Lib.hid (row_next hb R.out); replace Z := Go.Lib.hid (row_next hb Z.out); replace V := Go.Lib.hid (row_next hb V.out); replace M := Go.Lib.hid (row_next hb M.out); replace S := Go.Lib.hid (row_next hb S.out); replace hB := Go.Lib.hid (below_next hB.out hb); replace hK := Go.Lib.hid (below_next hK.out hb); clear hb FN' R' Z' V' M' S')
        | (refine list_atI 22 rfl ?_; intro W hW; rw [hW] at hB hK FN R Z V M S; clear hW; have FN' := Go.Lib.hid (cls_row' FN.out); have R' := Go.Lib.hid (cls_row' R.out); have Z' := Go.Lib.hid (cls_row' Z.out); have V' := Go.Lib.hid (cls_row' V.out); have M' := Go.Lib.hid (cls_row' M.out); have S' := Go.Lib.hid (cls_row' S.out); (repeat (first | go_big_quiet_skip | (refine wpQuiet_load1 179 _ rfl (by first | exact want_n rfl | exact want_g _ _ _ rfl rfl rfl) (w.heap.size + 1) _ rfl 1 (fun _ => .func (.func 168) #[] #[.pointer (some ⟨b, 0, none⟩)]) _ rw_fn FN'.out (by omega) ?_; skip; simp only [Act.put, List.setIfInBounds_toArray, List.set_cons_succ, List.set_cons_zero]) | (refine wpQuiet_loadmid 33 _ rfl (by first | exact want_n rfl | exact want_g _ _ _ rfl rfl rfl) Bx _ rfl 2 2 (spAt x y) _ rw_spot size_spot R'.out (by omega) ?_; rw [sp_row]; simp only [Act.put, List.setIfInBounds_toArray, List.set_cons_succ, List.set_cons_zero]) | (refine wpQuiet_load1 2 _ rfl (by first | exact want_n rfl | exact want_g _ _ _ rfl rfl rfl) (w.heap.size + 4) _ rfl 1 (fun _ => .int .i64 bp.2) _ rw_int64 M'.out (by omega) ?_; skip; simp only [Act.put, List.setIfInBounds_toArray, List.set_cons_succ, List.set_cons_zero]) | go_big_quiet_step ((go_at_call 168; exact cls_call _ (fun w hw => HC.out x y w (row_next hw S.out) hx hy))))); refine wpQuiet_nil ?_; intro Wn hb; replace FN := Go.Lib.hid (row_next hb FN.out); replace R := Go.Lib.hid (row_next hb R.out); replace Z := Go.Lib.hid (row_next hb Z.out); replace V := Go.Lib.hid (row_next hb V.out); replace M := Go.Lib.hid (row_next hb M.out); replace S := Go.Lib.hid (row_next hb S.out); replace hB := Go.Lib.hid (below_next hB.out hb); replace hK := Go.Lib.hid (below_next hK.out hb); clear hb FN' R' Z' V' M' S'))
      exact ⟨((keeps_below hK.out).trans (keeps_setRow V.out (vrow 2 (spAt x y)))).trans (keeps_setRow (row_set' (by omega) M.out (vrow 2 (spAt x y))) (vrow 1 fun _ => .int .i64 ((darkB s) x y))), ((Kp2.of_lt hK.out (by omega) (by omega)).setRow (by omega) (by omega) _).setRow (by omega) (by omega) _,
        row_set' (by omega) (row_set' (by omega) FN.out _) _, row_set' (by omega) (row_set' (by omega) Z.out _) _, by rw [hap.out, bestStep, if_pos (by exact hgt)]; exact row_set' (by omega) (row_set V.out _) _, by rw [hap.out, bestStep, if_pos (by exact hgt)]; exact row_set (row_set' (by omega) M.out _) _, row_set' (by omega) (row_set' (by omega) S.out _) _, Below_setRow (Below_setRow hB.out (by omega) _) (by omega) _⟩
    · have hdec : decide (bp.2 < (darkB s) x y) = false := by simpa using hgt
      gi_wp2_with (first
        | (gi_at_call 168; (refine (callsFW (ro := some _) (HC.out x y _ S.out hx hy)).mono ?_; rintro e w1 ⟨rfl, hb⟩; replace FN := Go.Lib.hid (row_next hb FN.out); replace R := Go.Lib.hid (row_next hb R.out); replace Z := Go.Lib.hid (row_next hb Z.out); replace V := Go.Lib.hid (row_next hb V.out); replace M := Go.Lib.hid (row_next hb M.out); replace S := Go.Lib.hid (row_next hb S.out); replace hB := Go.Lib.hid (below_next hB.out hb); replace hK := Go.Lib.hid (below_next hK.out hb); clear hb ))
        | (refine list_atI 18 rfl ?_; intro W hW; rw [hW] at hB hK FN R Z V M S; clear hW; have FN' := Go.Lib.hid (cls_row' FN.out); have R' := Go.Lib.hid (cls_row' R.out); have Z' := Go.Lib.hid (cls_row' Z.out); have V' := Go.Lib.hid (cls_row' V.out); have M' := Go.Lib.hid (cls_row' M.out); have S' := Go.Lib.hid (cls_row' S.out); (repeat (first | go_big_quiet_skip | (refine wpQuiet_load1 179 _ rfl (by first | exact want_n rfl | exact want_g _ _ _ rfl rfl rfl) (w.heap.size + 1) _ rfl 1 (fun _ => .func (.func 168) #[] #[.pointer (some ⟨b, 0, none⟩)]) _ rw_fn FN'.out (by omega) ?_; skip; simp only [Act.put, List.setIfInBounds_toArray, List.set_cons_succ, List.set_cons_zero]) | (refine wpQuiet_loadmid 33 _ rfl (by first | exact want_n rfl | exact want_g _ _ _ rfl rfl rfl) Bx _ rfl 2 2 (spAt x y) _ rw_spot size_spot R'.out (by omega) ?_; rw [sp_row]; simp only [Act.put, List.setIfInBounds_toArray, List.set_cons_succ, List.set_cons_zero]) | (refine wpQuiet_load1 2 _ rfl (by first | exact want_n rfl | exact want_g _ _ _ rfl rfl rfl) (w.heap.size + 4) _ rfl 1 (fun _ => .int .i64 bp.2) _ rw_int64 M'.out (by omega) ?_; skip; simp only [Act.put, List.setIfInBounds_toArray, List.set_cons_succ, List.set_cons_zero]) | go_big_quiet_step ((go_at_call 168; exact cls_call _ (fun w hw => HC.out x y w (row_next hw S.out) hx hy))))); refine wpQuiet_nil ?_; intro Wn hb; replace FN := Go.Lib.hid (row_next hb FN.out); replace R := Go.Lib.hid (row_next hb R.out); replace Z := Go.Lib.hid (row_next hb Z.out); replace V := Go.Lib.hid (row_next hb V.out); replace M := Go.Lib.hid (row_next hb M.out); replace S := Go.Lib.hid (row_next hb S.out); replace hB := Go.Lib.hid (below_next hB.out hb); replace hK := Go.Lib.hid (below_next hK.out hb); clear hb FN' R' Z' V' M' S')
        | (refine list_atI 22 rfl ?_; intro W hW; rw [hW] at hB hK FN R Z V M S; clear hW; have FN' := Go.Lib.hid (cls_row' FN.out); have R' := Go.Lib.hid (cls_row' R.out); have Z' := Go.Lib.hid (cls_row' Z.out); have V' := Go.Lib.hid (cls_row' V.out); have M' := Go.Lib.hid (cls_row' M.out); have S' := Go.Lib.hid (cls_row' S.out); (repeat (first | go_big_quiet_skip | (refine wpQuiet_load1 179 _ rfl (by first | exact want_n rfl | exact want_g _ _ _ rfl rfl rfl) (w.heap.size + 1) _ rfl 1 (fun _ => .func (.func 168) #[] #[.pointer (some ⟨b, 0, none⟩)]) _ rw_fn FN'.out (by omega) ?_; skip; simp only [Act.put, List.setIfInBounds_toArray, List.set_cons_succ, List.set_cons_zero]) | (refine wpQuiet_loadmid 33 _ rfl (by first | exact want_n rfl | exact want_g _ _ _ rfl rfl rfl) Bx _ rfl 2 2 (spAt x y) _ rw_spot size_spot R'.out (by omega) ?_; rw [sp_row]; simp only [Act.put, List.setIfInBounds_toArray, List.set_cons_succ, List.set_cons_zero]) | (refine wpQuiet_load1 2 _ rfl (by first | exact want_n rfl | exact want_g _ _ _ rfl rfl rfl) (w.heap.size + 4) _ rfl 1 (fun _ => .int .i64 bp.2) _ rw_int64 M'.out (by omega) ?_; skip; simp only [Act.put, List.setIfInBounds_toArray, List.set_cons_succ, List.set_cons_zero]) | go_big_quiet_step ((go_at_call 168; exact cls_call _ (fun w hw => HC.out x y w (row_next hw S.out) hx hy))))); refine wpQuiet_nil ?_; intro Wn hb; replace FN := Go.Lib.hid (row_next hb FN.out); replace R := Go.Lib.hid (row_next hb R.out); replace Z := Go.Lib.hid (row_next hb Z.out); replace V := Go.Lib.hid (row_next hb V.out); replace M := Go.Lib.hid (row_next hb M.out); replace S := Go.Lib.hid (row_next hb S.out); replace hB := Go.Lib.hid (below_next hB.out hb); replace hK := Go.Lib.hid (below_next hK.out hb); clear hb FN' R' Z' V' M' S'))
      exact ⟨keeps_below hK.out, Kp2.of_lt hK.out (by omega) (by omega), FN.out, Z.out, by rw [hap.out, bestStep, if_neg (by simpa using hgt)]; exact V.out, by rw [hap.out, bestStep, if_neg (by simpa using hgt)]; exact M.out, S.out, hB.out⟩
  case done =>
    rintro D W hD ⟨FN, Z, V, M, S, hB⟩ hd
    obtain ⟨g1, g2⟩ := BD.out (cellsL a c)
    have E := hE.next hB
    obtain ⟨bp, hbp⟩ : ∃ bp, best (darkB s) (cellsL a c) = bp := ⟨_, rfl⟩
    rw [hbp] at V M g1 g2
    have HBP := Go.Lib.hid hbp
    clear hbp
    have hsz := hB.size
    replace V := Go.Lib.hid V; replace hd := Go.Lib.hid hd; replace hB := Go.Lib.hid hB; replace M := Go.Lib.hid M; replace Z := Go.Lib.hid Z; replace E := Go.Lib.hid E
    clear FN S
    have hlt := row_lt hd.out
    by_cases h0 : bp.2 = 0
    · have hdec : decide (bp.2 = 0) = true := by simpa using h0
      go_wp2_with (first | (refine wpList_load1 rfl 2 _ rfl (w.heap.size + 4) _ rfl 1 (fun _ => .int .i64 bp.2) _ _ Tryd.underlying2 rfl M.out (by omega) ?_; skip; simp only [Act.put, List.setIfInBounds_toArray, List.set_cons_succ, List.set_cons_zero]))
      refine Code.wp_mono (Q := fun ex a' W' => ex = .normal ∧ a'.tmps.getD 4 undef = .pointer (some ⟨w.heap.size + 2, 0, none⟩) ∧ a'.tmps.getD 5 undef = .int .i64 0 ∧ a'.tmps.getD 6 undef = errP e 6 ∧ a'.defers = [{ target := .collected D, args := #[] }] ∧ Below w.heap.size w W' ∧ W'.heap[w.heap.size + 2]? = some (.cells (vrow 2 (spAt 0 0)) 33) ∧ W'.heap[D]? = some (.deferred (some []))) ?_ ?_
      rotate_left
      · have Vz : W.drew.heap[w.heap.size + 2]? = some (.cells (vrow 2 (spAt 0 0)) 33) := Z.out
        refine wp_region_held_drew (S := fun W' => Below w.heap.size w W' ∧ W'.heap[D]? = some (.deferred (some [])) ∧ W'.heap[6]? = some (.cells (vrow 1 fun _ => errP e 6) (e.t 6))) (by kernel_rfl) ⟨hB.out.drew, hd.out, E.out.v6⟩ (fun hH => ?_)
        clear hB Z hd hdec
        generalize World.drew _ = W1 at hH Vz ⊢
        refine wpAnyH_take (i := 0) (v := (.agg (vrow 2 (spAt 0 0)))) rfl (by kernel_rfl) (by kernel_rfl) (by kernel_rfl) (fun _ _ _ h => by cases h.1) (.inl ⟨by rfl, fun w _ => by go_simp⟩) hH ?_
        (try simp only [Act.put, List.setIfInBounds_toArray, List.set_cons_succ, List.set_cons_zero])
        refine wpAnyH_take (i := 1) (v := (errP e 6)) rfl (by kernel_rfl) (by kernel_rfl) (by kernel_rfl) (fun _ _ _ h => by cases h.1) (yields_one (by rfl) 107 _ rfl (6) 0 rfl 1 (fun _ => errP e 6) _ _ Tryd.underlying107 rfl (by omega) (fun _ h => h.2.2)) hH ?_
        (try simp only [Act.put, List.setIfInBounds_toArray, List.set_cons_succ, List.set_cons_zero])
        refine wpAnyH_ready (rs := [2]) (by kernel_rfl) (by simp) (AllReadyH.cons rfl (fun K hK => ?_) AllReadyH.nil)
        rw [if_pos (by rfl)]
        unfold Oper.wp
        rw [run_storemid 33 (.tmp 4) (.tmp 28) rfl (w.heap.size + 2) 0 rfl 2 2 (spAt 0 0) (spAt 0 0) rfl 33 size_spot Vz (by omega) (fun i _ => spAt_one _ _ i), vrow_over_all, Oper.upon_skip]
        have V2 := row_set Vz (vrow 2 (spAt 0 0))
        have hH2 : Below w.heap.size w (W1.setRow (w.heap.size + 2) (vrow 2 (spAt 0 0))) ∧ (W1.setRow (w.heap.size + 2) (vrow 2 (spAt 0 0))).heap[D]? = some (.deferred (some [])) ∧ (W1.setRow (w.heap.size + 2) (vrow 2 (spAt 0 0))).heap[6]? = some (.cells (vrow 1 fun _ => errP e 6) (e.t 6)) := ⟨Below_setRow hH.1 (by omega) _, (setRow_other _ _ D _ (by omega)).trans hH.2.1, row_set' (by omega) hH.2.2 _⟩
        refine hK.out _ _ hH2 (fun hH => ?_)
        clear hK K hH2
        (try simp only [Act.put, List.setIfInBounds_toArray, List.set_cons_succ, List.set_cons_zero])
        refine wpAnyH_take (i := 3) (v := (.int .i64 0)) rfl (by kernel_rfl) (by kernel_rfl) (by kernel_rfl) (fun _ _ _ h => by cases h.1) (.inl ⟨by rfl, fun w _ => by go_simp⟩) hH ?_
        (try simp only [Act.put, List.setIfInBounds_toArray, List.set_cons_succ, List.set_cons_zero])
        refine wpAnyH_take (i := 4) (v := (errP e 6)) rfl (by kernel_rfl) (by kernel_rfl) (by kernel_rfl) (fun _ _ _ h => by cases h.1) (.inl ⟨by rfl, fun w _ => by go_simp⟩) hH ?_
        (try simp only [Act.put, List.setIfInBounds_toArray, List.set_cons_succ, List.set_cons_zero])
        refine wpAnyH_done (by kernel_rfl) ?_ _
        exact ⟨rfl, rfl, rfl, rfl, rfl, hH.1, V2, hH.2.1⟩
      · rintro e1 a1 W1 ⟨rfl, t4, t5, t6, hdf, hB, Z, hd⟩
        have hlt := row_lt hd
        go_wp2
        refine leaveM hdf hd (res_row3 Tryd.results118 (w.heap.size + 2) 2 (spAt 0 0) 33 _ Tryd.underlying33 rfl size_spot (.int .i64 0) (errP e 6) t4 t5 t6 (row_put Z (by omega))) ?_
        exact ⟨by rw [HBP.out, firstRes_no (by simpa using h0)], below_put _ hB (by omega) hlt⟩
    · have hdec : decide (bp.2 = 0) = false := by simpa using h0
      go_wp2_with (first | (refine wpList_load1 rfl 2 _ rfl (w.heap.size + 4) _ rfl 1 (fun _ => .int .i64 bp.2) _ _ Tryd.underlying2 rfl M.out (by omega) ?_; skip; simp only [Act.put, List.setIfInBounds_toArray, List.set_cons_succ, List.set_cons_zero]))
      refine Code.wp_mono (Q := fun ex a' W' => ex = .normal ∧ a'.tmps.getD 4 undef = .pointer (some ⟨w.heap.size + 2, 0, none⟩) ∧ a'.tmps.getD 5 undef = .int .i64 bp.2 ∧ a'.tmps.getD 6 undef = .nilIface ∧ a'.defers = [{ target := .collected D, args := #[] }] ∧ Below w.heap.size w W' ∧ W'.heap[w.heap.size + 2]? = some (.cells (vrow 2 (spAt bp.1.1 bp.1.2)) 33) ∧ W'.heap[D]? = some (.deferred (some []))) ?_ ?_
      rotate_left
      · have Vz : W.drew.heap[w.heap.size + 2]? = some (.cells (vrow 2 (spAt 0 0)) 33) := Z.out
        refine wp_region_held_drew (S := fun W' => Below w.heap.size w W' ∧ W'.heap[D]? = some (.deferred (some [])) ∧ W'.heap[w.heap.size + 3]? = some (.cells (vrow 2 (spAt bp.1.1 bp.1.2)) 33) ∧ W'.heap[w.heap.size + 4]? = some (.cells (vrow 1 fun _ => .int .i64 bp.2) 2)) (by kernel_rfl) ⟨hB.out.drew, hd.out, V.out, M.out⟩ (fun hH => ?_)
        clear hB Z hd hdec
        generalize World.drew _ = W1 at hH Vz ⊢
        refine wpAnyH_take (i := 0) (v := (.agg (vrow 2 (spAt bp.1.1 bp.1.2)))) rfl (by kernel_rfl) (by kernel_rfl) (by kernel_rfl) (fun _ _ _ h => by cases h.1) (yields_row (by rfl) 33 _ rfl (w.heap.size + 3) rfl 2 (spAt bp.1.1 bp.1.2) 33 _ Tryd.underlying33 rfl size_spot (fun _ h => h.2.2.1)) hH ?_
        (try simp only [Act.put, List.setIfInBounds_toArray, List.set_cons_succ, List.set_cons_zero])
        refine wpAnyH_take (i := 1) (v := (.int .i64 bp.2)) rfl (by kernel_rfl) (by kernel_rfl) (by kernel_rfl) (fun _ _ _ h => by cases h.1) (yields_one (by rfl) 2 _ rfl (w.heap.size + 4) 0 rfl 1 (fun _ => .int .i64 bp.2) _ _ Tryd.underlying2 rfl (by omega) (fun _ h => h.2.2.2)) hH ?_
        (try simp only [Act.put, List.setIfInBounds_toArray, List.set_cons_succ, List.set_cons_zero])
        refine wpAnyH_ready (rs := [2]) (by kernel_rfl) (by simp) (AllReadyH.cons rfl (fun K hK => ?_) AllReadyH.nil)
        rw [if_pos (by rfl)]
        unfold Oper.wp
        rw [run_storemid 33 (.tmp 4) (.tmp 30) rfl (w.heap.size + 2) 0 rfl 2 2 (spAt 0 0) (spAt bp.1.1 bp.1.2) rfl 33 size_spot Vz (by omega) (fun i _ => spAt_one _ _ i), vrow_over_all, Oper.upon_skip]
        have V2 := row_set Vz (vrow 2 (spAt bp.1.1 bp.1.2))
        have hH2 : Below w.heap.size w (W1.setRow (w.heap.size + 2) (vrow 2 (spAt bp.1.1 bp.1.2))) ∧ (W1.setRow (w.heap.size + 2) (vrow 2 (spAt bp.1.1 bp.1.2))).heap[D]? = some (.deferred (some [])) ∧ (W1.setRow (w.heap.size + 2) (vrow 2 (spAt bp.1.1 bp.1.2))).heap[w.heap.size + 3]? = some (.cells (vrow 2 (spAt bp.1.1 bp.1.2)) 33) ∧ (W1.setRow (w.heap.size + 2) (vrow 2 (spAt bp.1.1 bp.1.2))).heap[w.heap.size + 4]? = some (.cells (vrow 1 fun _ => .int .i64 bp.2) 2) := ⟨Below_setRow hH.1 (by omega) _, (setRow_other _ _ D _ (by omega)).trans hH.2.1, row_set' (by omega) hH.2.2.1 _, row_set' (by omega) hH.2.2.2 _⟩
        refine hK.out _ _ hH2 (fun hH => ?_)
        clear hK K hH2
        (try simp only [Act.put, List.setIfInBounds_toArray, List.set_cons_succ, List.set_cons_zero])
        refine wpAnyH_take (i := 3) (v := (.int .i64 bp.2)) rfl (by kernel_rfl) (by kernel_rfl) (by kernel_rfl) (fun _ _ _ h => by cases h.1) (.inl ⟨by rfl, fun w _ => by go_simp⟩) hH ?_
        (try simp only [Act.put, List.setIfInBounds_toArray, List.set_cons_succ, List.set_cons_zero])
        refine wpAnyH_take (i := 4) (v := (.nilIface)) rfl (by kernel_rfl) (by kernel_rfl) (by kernel_rfl) (fun _ _ _ h => by cases h.1) (.inl ⟨by rfl, fun w _ => by go_simp⟩) hH ?_
        (try simp only [Act.put, List.setIfInBounds_toArray, List.set_cons_succ, List.set_cons_zero])
        refine wpAnyH_done (by kernel_rfl) ?_ _
        exact ⟨rfl, rfl, rfl, rfl, rfl, hH.1, V2, hH.2.1⟩
      · rintro e1 a1 W1 ⟨rfl, t4, t5, t6, hdf, hB, Z, hd⟩
        have hlt := row_lt hd
        go_wp2
        refine leaveM hdf hd (res_row3 Tryd.results118 (w.heap.size + 2) 2 (spAt bp.1.1 bp.1.2) 33 _ Tryd.underlying33 rfl size_spot (.int .i64 bp.2) (.nilIface) t4 t5 t6 (row_put Z (by omega))) ?_
        exact ⟨by rw [HBP.out, firstRes_yes (by simpa using h0)], below_put _ hB (by omega) hlt⟩
  case stop =>
    rintro D c pre W hD h hd
    exact h.elim
end Go.Proofs.YtfgcpiipndhllaaDoor
