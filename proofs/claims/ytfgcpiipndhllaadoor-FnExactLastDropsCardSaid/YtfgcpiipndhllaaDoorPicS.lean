import Derived.Test.YtfgcpiipndhllaaDoorOpenPic
import Derived.Test.YtfgcpiipndhllaaDoorG1
namespace Go.Proofs.YtfgcpiipndhllaaDoor
open Go.RowKit
set_option maxRecDepth 100000
set_option linter.unusedVariables false
set_option linter.unusedSimpArgs false
def hasP (p : Pic) (x y : Int) : Bool := insB p.wide p.high x y
set_option maxHeartbeats 400000 in
theorem hasP_any (p : Pic) (x y : Int) (w : World) : Calls Tryd.prog 176 #[.agg p.row, .agg #[.int .i8 x, .int .i8 y]] w fun e w' => e = .returned (.bool (hasP p x y)) ∧ Below w.heap.size w w' := by
  rw [sp_vrow]
  have hB : Hid (Below w.heap.size w ((w.alloc (.cells (vrow 66 p.at) 61)).alloc (.cells (vrow 2 (spAt x y)) 33))) := (((Below.refl w.heap.size w).alloc (by simp <;> omega) _).alloc (by simp <;> omega) _)
  have P : Hid (((w.alloc (.cells (vrow 66 p.at) 61)).alloc (.cells (vrow 2 (spAt x y)) 33)).heap[(w.heap.size)]? = some (.cells (vrow 66 p.at) 61)) := heap_past _ _ _ _ (by first | omega | (simp <;> omega)) (heap_at _ _ _ (by simp))
  have R : Hid (((w.alloc (.cells (vrow 66 p.at) 61)).alloc (.cells (vrow 2 (spAt x y)) 33)).heap[(w.heap.size + 1)]? = some (.cells (vrow 2 (spAt x y)) 33)) := heap_at _ _ _ (by simp)
  have HC := Go.Lib.hid (fun w => inside_any p.wide p.high x y w)
  go_enter Tryd.func176, Tryd.ntmps176
  go_wp2_with (first
    | (refine wpList_ld1 22 _ rfl (by first | exact want_n rfl | exact want_g _ _ _ rfl rfl rfl) (w.heap.size) _ rfl 66 p.at _ rw_i8 P.out (by omega) ?_; (first | rw [Pic.at_0] | rw [Pic.at_1]))
    | (refine wpList_ldm 33 _ rfl (by first | exact want_n rfl | exact want_g _ _ _ rfl rfl rfl) (w.heap.size + 1) _ rfl 2 2 (spAt x y) _ rw_spot size_spot R.out (by omega) ?_; rw [sp_row])
    | (go_at_call 186; (refine (HC.out _).mono ?_; rintro e w1 ⟨rfl, hb⟩; replace hB := Go.Lib.hid (below_next hB.out hb); clear hb)))
  go_ret
  exact ⟨rfl, hB.out⟩
set_option maxHeartbeats 400000 in
theorem shown_any (p : Pic) (x y : Nat) (hx : x < 8) (hy : y < 8) (w : World) : Calls Tryd.prog 179 #[.agg p.row, .agg #[.int .i8 x, .int .i8 y]] w fun e w' => e = .returned (.int .u8 (p.ink (8 * y + x))) ∧ Below w.heap.size w w' := by
  rw [sp_vrow]
  have hB : Hid (Below w.heap.size w ((w.alloc (.cells (vrow 66 p.at) 61)).alloc (.cells (vrow 2 (spAt x y)) 33))) := (((Below.refl w.heap.size w).alloc (by simp <;> omega) _).alloc (by simp <;> omega) _)
  have P : Hid (((w.alloc (.cells (vrow 66 p.at) 61)).alloc (.cells (vrow 2 (spAt x y)) 33)).heap[(w.heap.size)]? = some (.cells (vrow 66 p.at) 61)) := heap_past _ _ _ _ (by first | omega | (simp <;> omega)) (heap_at _ _ _ (by simp))
  have R : Hid (((w.alloc (.cells (vrow 66 p.at) 61)).alloc (.cells (vrow 2 (spAt x y)) 33)).heap[(w.heap.size + 1)]? = some (.cells (vrow 2 (spAt x y)) 33)) := heap_at _ _ _ (by simp)
  go_enter Tryd.func179, Tryd.ntmps179
  go_wp2
  refine region_at (by kernel_rfl) (by kernel_rfl) ?_
  intro W hW
  rw [hW] at hB P R
  clear hW
  have P' := Go.Lib.hid (cls_row' P.out); have R' := Go.Lib.hid (cls_row' R.out)
  repeat (first
    | go_big_quiet_skip
    | (refine wpQuiet_load1 5 _ rfl (by first | exact want_n rfl | exact want_g _ _ _ rfl rfl rfl) (w.heap.size) _ rfl 66 p.at _ rw_u8 P'.out (by omega) ?_; rw [Pic.at_ink1 _ _ (8 * y + x) (by omega)]; simp only [Act.put, List.setIfInBounds_toArray, List.set_cons_succ, List.set_cons_zero])
    | (refine wpQuiet_load1 22 _ rfl (by first | exact want_n rfl | exact want_g _ _ _ rfl rfl rfl) (w.heap.size + 1) _ rfl 2 (spAt x y) _ rw_i8 R'.out (by omega) ?_; (first | rw [spAt_0] | rw [spAt_1]); simp only [Act.put, List.setIfInBounds_toArray, List.set_cons_succ, List.set_cons_zero])
    | go_big_quiet_step (fail))
  refine wpQuiet_nil ?_
  intro W2 hb
  replace P := Go.Lib.hid (row_next hb P.out); replace R := Go.Lib.hid (row_next hb R.out); replace hB := Go.Lib.hid (below_next hB.out hb)
  clear hb P P' R R'
  go_wp2
  go_ret
  exact ⟨rfl, hB.out⟩
set_option maxHeartbeats 400000 in
theorem pis_any (s : Pic) (b : Nat) (x y : Int) (w : World) (hs : w.heap[b]? = some (.cells s.row 61)) (hf : s.fit) (hx : -128 ≤ x ∧ x ≤ 127) (hy : -128 ≤ y ∧ y ≤ 127) : Calls Tryd.prog 135 #[.pointer (some ⟨b, 0, none⟩), .agg #[.int .i8 x, .int .i8 y]] w fun e w' => e = .returned (.bool (hasP s x y)) ∧ Below w.heap.size w w' := by
  rw [sp_vrow]
  have hf1 := hf.wide; have hf2 := hf.high
  clear hf
  have hB : Hid (Below w.heap.size w (w.alloc (.cells (vrow 2 (spAt x y)) 33))) := ((Below.refl w.heap.size w).alloc (by simp <;> omega) _)
  have R : Hid ((w.alloc (.cells (vrow 2 (spAt x y)) 33)).heap[(w.heap.size)]? = some (.cells (vrow 2 (spAt x y)) 33)) := heap_at _ _ _ (by simp)
  have P : Hid ((w.alloc (.cells (vrow 2 (spAt x y)) 33)).heap[b]? = some (.cells (vrow 66 s.at) 61)) := heap_past _ _ _ _ (by first | (have := row_lt hs; omega) | (have := row_lt hs; simp <;> omega)) (hs)
  by_cases h1 : 0 ≤ x ∧ x ≤ s.wide - 1
  · obtain ⟨h1, h2⟩ := h1
    by_cases h3 : 0 ≤ y ∧ y ≤ s.high - 1
    · obtain ⟨h3, h4⟩ := h3
      go_enter Tryd.func135, Tryd.ntmps135
      go_wp2
      (refine region_at (by kernel_rfl) (by kernel_rfl) ?_; intro W hW; rw [hW] at hB P R; clear hW; have P' := Go.Lib.hid (cls_row' P.out); have R' := Go.Lib.hid (cls_row' R.out); (repeat (first | go_big_quiet_skip | (refine wpQuiet_load1 22 _ rfl (by first | exact want_n rfl | exact want_g _ _ _ rfl rfl rfl) b _ rfl 66 s.at _ rw_i8 P'.out (by omega) ?_; (first | rw [Pic.at_0] | rw [Pic.at_1]); simp only [Act.put, List.setIfInBounds_toArray, List.set_cons_succ, List.set_cons_zero]) | (refine wpQuiet_load1 22 _ rfl (by first | exact want_n rfl | exact want_g _ _ _ rfl rfl rfl) (w.heap.size) _ rfl 2 (spAt x y) _ rw_i8 R'.out (by omega) ?_; (first | rw [spAt_0] | rw [spAt_1]); simp only [Act.put, List.setIfInBounds_toArray, List.set_cons_succ, List.set_cons_zero]) | go_big_quiet_step ((go_at_call 75; first | exact cls_call _ (fun w hw => in_yes _ _ _ (by omega) (by omega) w) | exact cls_call _ (fun w hw => in_no _ _ _ (by omega) w))))); refine wpQuiet_nil ?_; intro Wn hb; replace P := Go.Lib.hid (row_next hb P.out); replace R := Go.Lib.hid (row_next hb R.out); replace hB := Go.Lib.hid (below_next hB.out hb); clear hb P' R')
      go_wp2
      go_ret
      exact ⟨by simp [hasP, insB] <;> (first | omega | (intros; omega)), hB.out⟩
    · have h3' : y < 0 ∨ s.high - 1 < y := by omega
      clear h3
      go_enter Tryd.func135, Tryd.ntmps135
      go_wp2
      (refine region_at (by kernel_rfl) (by kernel_rfl) ?_; intro W hW; rw [hW] at hB P R; clear hW; have P' := Go.Lib.hid (cls_row' P.out); have R' := Go.Lib.hid (cls_row' R.out); (repeat (first | go_big_quiet_skip | (refine wpQuiet_load1 22 _ rfl (by first | exact want_n rfl | exact want_g _ _ _ rfl rfl rfl) b _ rfl 66 s.at _ rw_i8 P'.out (by omega) ?_; (first | rw [Pic.at_0] | rw [Pic.at_1]); simp only [Act.put, List.setIfInBounds_toArray, List.set_cons_succ, List.set_cons_zero]) | (refine wpQuiet_load1 22 _ rfl (by first | exact want_n rfl | exact want_g _ _ _ rfl rfl rfl) (w.heap.size) _ rfl 2 (spAt x y) _ rw_i8 R'.out (by omega) ?_; (first | rw [spAt_0] | rw [spAt_1]); simp only [Act.put, List.setIfInBounds_toArray, List.set_cons_succ, List.set_cons_zero]) | go_big_quiet_step ((go_at_call 75; first | exact cls_call _ (fun w hw => in_yes _ _ _ (by omega) (by omega) w) | exact cls_call _ (fun w hw => in_no _ _ _ (by omega) w))))); refine wpQuiet_nil ?_; intro Wn hb; replace P := Go.Lib.hid (row_next hb P.out); replace R := Go.Lib.hid (row_next hb R.out); replace hB := Go.Lib.hid (below_next hB.out hb); clear hb P' R')
      go_wp2
      go_ret
      exact ⟨by simp [hasP, insB] <;> (first | omega | (intros; omega)), hB.out⟩
  · have h1' : x < 0 ∨ s.wide - 1 < x := by omega
    clear h1
    go_enter Tryd.func135, Tryd.ntmps135
    go_wp2
    (refine region_at (by kernel_rfl) (by kernel_rfl) ?_; intro W hW; rw [hW] at hB P R; clear hW; have P' := Go.Lib.hid (cls_row' P.out); have R' := Go.Lib.hid (cls_row' R.out); (repeat (first | go_big_quiet_skip | (refine wpQuiet_load1 22 _ rfl (by first | exact want_n rfl | exact want_g _ _ _ rfl rfl rfl) b _ rfl 66 s.at _ rw_i8 P'.out (by omega) ?_; (first | rw [Pic.at_0] | rw [Pic.at_1]); simp only [Act.put, List.setIfInBounds_toArray, List.set_cons_succ, List.set_cons_zero]) | (refine wpQuiet_load1 22 _ rfl (by first | exact want_n rfl | exact want_g _ _ _ rfl rfl rfl) (w.heap.size) _ rfl 2 (spAt x y) _ rw_i8 R'.out (by omega) ?_; (first | rw [spAt_0] | rw [spAt_1]); simp only [Act.put, List.setIfInBounds_toArray, List.set_cons_succ, List.set_cons_zero]) | go_big_quiet_step ((go_at_call 75; first | exact cls_call _ (fun w hw => in_yes _ _ _ (by omega) (by omega) w) | exact cls_call _ (fun w hw => in_no _ _ _ (by omega) w))))); refine wpQuiet_nil ?_; intro Wn hb; replace P := Go.Lib.hid (row_next hb P.out); replace R := Go.Lib.hid (row_next hb R.out); replace hB := Go.Lib.hid (below_next hB.out hb); clear hb P' R')
    go_wp2
    go_ret
    exact ⟨by simp [hasP, insB] <;> (first | omega | (intros; omega)), hB.out⟩
/-- what a place of a valid picture shows -/
def placeP (p : Pic) (x y : Nat) : Bool := decide (p.ink (8 * y + x) ≤ 3) && (decide (p.ink (8 * y + x) ≤ 0) || hasP p x y)
def okP (p : Pic) : Bool := sizeB p.wide p.high && (List.range 64).all fun i => placeP p (i % 8) (i / 8)
theorem okP_no (p : Pic) {x y : Nat} (hx : x < 8) (hy : y < 8) (h : placeP p x y = false) : okP p = false := by
  have : ((List.range 64).all fun i => placeP p (i % 8) (i / 8)) = false := by
    rw [List.all_eq_false]; exact ⟨8 * y + x, by simp; omega, by rw [show (8 * y + x) % 8 = x by omega, show (8 * y + x) / 8 = y by omega, h]; simp⟩
  simp [okP, this]
theorem okP_yes (p : Pic) (h0 : sizeB p.wide p.high = true) (h : ∀ x y, x < 8 → y < 8 → placeP p x y = true) : okP p = true := by
  have : ((List.range 64).all fun i => placeP p (i % 8) (i / 8)) = true := by
    rw [List.all_eq_true]; intro i hi; simp at hi; exact h _ _ (by omega) (by omega)
  simp [okP, this, h0]
theorem okP_size {p : Pic} (h : okP p = true) : 1 ≤ p.wide ∧ p.wide ≤ 8 ∧ 1 ≤ p.high ∧ p.high ≤ 8 := by
  simp only [okP, sizeB, Bool.and_eq_true, decide_eq_true_eq] at h
  exact ⟨h.1.1, h.1.2.1, h.1.2.2.1, h.1.2.2.2⟩
theorem okP_place {p : Pic} (h : okP p = true) {x y : Nat} (hx : x < 8) (hy : y < 8) : placeP p x y = true := by
  cases hp : placeP p x y
  · rw [okP_no p hx hy hp] at h; cases h
  · rfl
theorem zero_spotP : ∀ w, (zeroValue 33).run Tryd.prog w = .ok (.agg (vrow 2 (spAt 0 0))) w := fun _ => by kernel_rfl
theorem spAt_oneP (x y : Int) (i : Nat) : (spAt x y i).oneCell' = true := by unfold spAt; split <;> rfl
theorem built_spP (x y : Int) : Tryd.prog.built 33 [(0, .int .i8 x), (1, .int .i8 y)] = some #[.int .i8 x, .int .i8 y] := by kernel_rfl
set_option maxHeartbeats 1000000 in
theorem okP_from (w0 : World) (p : Pic) (b : Nat) (w : World) (hs : w.heap[b]? = some (.cells p.row 61)) (hf : p.fit) (hB : Below w0.heap.size w0 w) : Calls Tryd.prog 83 #[.pointer (some ⟨b, 0, none⟩)] w fun e w' => e = .returned (.bool (okP p)) ∧ Below w0.heap.size w0 w' := by
  replace hB := Go.Lib.hid hB
  have P := Go.Lib.hid hs
  have hf1 := hf.wide; have hf2 := hf.high
  clear hs
  by_cases h1 : 1 ≤ p.wide ∧ p.wide ≤ 8
  rotate_left
  · have h1' : p.wide < 1 ∨ 8 < p.wide := by omega
    have HR := Go.Lib.hid (show okP p = false by simp only [okP]; rw [sizeB_no (by omega)]; rfl)
    clear h1
    go_enter Tryd.func83, Tryd.ntmps83
    go_wp2_with (first
      | go_skip
      | (go_at_call 75; first | (refine (in_yes _ _ _ (by omega) (by omega) _).mono ?_; rintro e w1 ⟨rfl, hb⟩; replace P := Go.Lib.hid (row_next hb P.out); replace hB := Go.Lib.hid (below_next hB.out hb); clear hb) | (refine (in_no _ _ _ (by omega) _).mono ?_; rintro e w1 ⟨rfl, hb⟩; replace P := Go.Lib.hid (row_next hb P.out); replace hB := Go.Lib.hid (below_next hB.out hb); clear hb))
      | (refine list_at 5 rfl ?_; intro W hW; rw [hW] at hB P; clear hW; have P' := Go.Lib.hid (cls_row' P.out); (repeat (first | go_big_quiet_skip | (refine wpQuiet_load1 22 _ rfl (by first | exact want_n rfl | exact want_g _ _ _ rfl rfl rfl) b _ rfl 66 p.at _ rw_i8 P'.out (by omega) ?_; (first | rw [Pic.at_0] | rw [Pic.at_1]); simp only [Act.put, List.setIfInBounds_toArray, List.set_cons_succ, List.set_cons_zero]) | go_big_quiet_step ((go_at_call 75; first | exact cls_call _ (fun w hw => in_yes _ _ _ (by omega) (by omega) w) | exact cls_call _ (fun w hw => in_no _ _ _ (by omega) w))))); refine wpQuiet_nil ?_; intro Wn hb; replace P := Go.Lib.hid (row_next hb P.out); replace hB := Go.Lib.hid (below_next hB.out hb); clear hb P')
      | (refine wpList_ld1 22 _ rfl (by first | exact want_n rfl | exact want_g _ _ _ rfl rfl rfl) b _ rfl 66 p.at _ rw_i8 P.out (by omega) ?_; (first | rw [Pic.at_0] | rw [Pic.at_1])))
    go_ret
    exact ⟨by rw [HR.out]; rfl, hB.out⟩
  · obtain ⟨h1, h2⟩ := h1
    by_cases h3 : 1 ≤ p.high ∧ p.high ≤ 8
    rotate_left
    · have h3' : p.high < 1 ∨ 8 < p.high := by omega
      have HR := Go.Lib.hid (show okP p = false by simp only [okP]; rw [sizeB_no (by omega)]; rfl)
      clear h3
      go_enter Tryd.func83, Tryd.ntmps83
      go_wp2_with (first
        | go_skip
        | (go_at_call 75; first | (refine (in_yes _ _ _ (by omega) (by omega) _).mono ?_; rintro e w1 ⟨rfl, hb⟩; replace P := Go.Lib.hid (row_next hb P.out); replace hB := Go.Lib.hid (below_next hB.out hb); clear hb) | (refine (in_no _ _ _ (by omega) _).mono ?_; rintro e w1 ⟨rfl, hb⟩; replace P := Go.Lib.hid (row_next hb P.out); replace hB := Go.Lib.hid (below_next hB.out hb); clear hb))
        | (refine list_at 5 rfl ?_; intro W hW; rw [hW] at hB P; clear hW; have P' := Go.Lib.hid (cls_row' P.out); (repeat (first | go_big_quiet_skip | (refine wpQuiet_load1 22 _ rfl (by first | exact want_n rfl | exact want_g _ _ _ rfl rfl rfl) b _ rfl 66 p.at _ rw_i8 P'.out (by omega) ?_; (first | rw [Pic.at_0] | rw [Pic.at_1]); simp only [Act.put, List.setIfInBounds_toArray, List.set_cons_succ, List.set_cons_zero]) | go_big_quiet_step ((go_at_call 75; first | exact cls_call _ (fun w hw => in_yes _ _ _ (by omega) (by omega) w) | exact cls_call _ (fun w hw => in_no _ _ _ (by omega) w))))); refine wpQuiet_nil ?_; intro Wn hb; replace P := Go.Lib.hid (row_next hb P.out); replace hB := Go.Lib.hid (below_next hB.out hb); clear hb P')
        | (refine wpList_ld1 22 _ rfl (by first | exact want_n rfl | exact want_g _ _ _ rfl rfl rfl) b _ rfl 66 p.at _ rw_i8 P.out (by omega) ?_; (first | rw [Pic.at_0] | rw [Pic.at_1])))
      go_ret
      exact ⟨by rw [HR.out]; rfl, hB.out⟩
    · obtain ⟨h3, h4⟩ := h3
      go_enter Tryd.func83, Tryd.ntmps83
      go_wp2_with (first
        | go_skip
        | (go_at_call 75; first | (refine (in_yes _ _ _ (by omega) (by omega) _).mono ?_; rintro e w1 ⟨rfl, hb⟩; replace P := Go.Lib.hid (row_next hb P.out); replace hB := Go.Lib.hid (below_next hB.out hb); clear hb) | (refine (in_no _ _ _ (by omega) _).mono ?_; rintro e w1 ⟨rfl, hb⟩; replace P := Go.Lib.hid (row_next hb P.out); replace hB := Go.Lib.hid (below_next hB.out hb); clear hb))
        | (refine list_at 5 rfl ?_; intro W hW; rw [hW] at hB P; clear hW; have P' := Go.Lib.hid (cls_row' P.out); (repeat (first | go_big_quiet_skip | (refine wpQuiet_load1 22 _ rfl (by first | exact want_n rfl | exact want_g _ _ _ rfl rfl rfl) b _ rfl 66 p.at _ rw_i8 P'.out (by omega) ?_; (first | rw [Pic.at_0] | rw [Pic.at_1]); simp only [Act.put, List.setIfInBounds_toArray, List.set_cons_succ, List.set_cons_zero]) | go_big_quiet_step ((go_at_call 75; first | exact cls_call _ (fun w hw => in_yes _ _ _ (by omega) (by omega) w) | exact cls_call _ (fun w hw => in_no _ _ _ (by omega) w))))); refine wpQuiet_nil ?_; intro Wn hb; replace P := Go.Lib.hid (row_next hb P.out); replace hB := Go.Lib.hid (below_next hB.out hb); clear hb P')
        | (refine wpList_ld1 22 _ rfl (by first | exact want_n rfl | exact want_g _ _ _ rfl rfl rfl) b _ rfl 66 p.at _ rw_i8 P.out (by omega) ?_; (first | rw [Pic.at_0] | rw [Pic.at_1])))
      go_loopw [3] (fun y wr => ∃ k : Nat, k ≤ 8 ∧ y = .int .i8 k ∧ (∀ x y, x < 8 → y < k → placeP p x y = true) ∧ Below w0.heap.size w0 wr ∧ wr.heap[b]? = some (.cells (vrow 66 p.at) 61)) (fun y _ => 8 - (intOf y).toNat)
      case atStart => exact ⟨0, by omega, rfl, fun _ _ _ h => by omega, hB.out, P.out⟩
      case round =>
        clear hB P
        obtain ⟨k, hk, rfl, hd, hB, P⟩ := hrel
        replace hB := Go.Lib.hid hB; replace P := Go.Lib.hid P; replace hd := Go.Lib.hid hd
        by_cases hlt : k < 8
        · have hdk : decide ((k : Int) < 8) = true := by simp; omega
          go_wp2
          obtain ⟨wo, hwo⟩ : ∃ wo : World, wo = wr := ⟨_, rfl⟩
          rw [← hwo] at hB P ⊢
          clear hwo wr
          go_loopw [4] (fun x wr => ∃ j : Nat, j ≤ 8 ∧ x = .int .i8 j ∧ ((∀ x y, x < 8 → y < k → placeP p x y = true) ∧ ∀ x, x < j → placeP p x k = true) ∧ Below w0.heap.size w0 wr ∧ wr.heap[b]? = some (.cells (vrow 66 p.at) 61)) (fun x _ => 8 - (intOf x).toNat)
          case atStart => exact ⟨0, by omega, rfl, ⟨hd.out, fun x h => by omega⟩, hB.out, P.out⟩
          case round =>
            clear hB P hd
            obtain ⟨j, hj, rfl, hd, hB, P⟩ := hrel
            replace hB := Go.Lib.hid hB; replace P := Go.Lib.hid P; replace hd := Go.Lib.hid hd
            by_cases hlj : j < 8
            · have hno := Go.Lib.hid (fun h : placeP p j k = false => okP_no p hlj hlt h)
              have hgo := Go.Lib.hid (show placeP p j k = true → (∀ x y, x < 8 → y < k → placeP p x y = true) ∧ ∀ x, x < j + 1 → placeP p x k = true from fun h => ⟨hd.out.1, fun x hx => if e : x = j then (by subst e; exact h) else hd.out.2 x (by omega)⟩)
              have HI := Go.Lib.hid fun w hs => pis_any p b j k w hs hf (by omega) (by omega)
              have hpl := Go.Lib.hid (show placeP p j k = (decide (p.ink (8 * k + j) ≤ 3) && (decide (p.ink (8 * k + j) ≤ 0) || hasP p j k)) from rfl)
              have hink := hf.ink (8 * k + j) (by omega)
              obtain ⟨v, hv⟩ : ∃ v, p.ink (8 * k + j) = v := ⟨_, rfl⟩
              rw [hv] at hink hpl
              have HV := Go.Lib.hid hv
              clear hd hf hv
              by_cases hv3 : v ≤ 3
              · have hg1 : decide (3 < v) = false := by simp; omega
                by_cases hv0 : v ≤ 0
                · have hg2 : decide (0 < v) = false := by simp; omega
                  have HG := Go.Lib.hid (hgo.out (by rw [hpl.out]; simp [hv3, hv0]))
                  clear hno hgo hpl HI hv3 hv0
                  go_wp2_with (first
                    | go_skip
                    | ((first | (with_reducible refine wlAt 36 rfl ?_) | (with_reducible refine wlAt 46 rfl ?_)); refine wpList_ld1 5 _ rfl (by first | exact want_n rfl | exact want_g _ _ _ rfl rfl rfl) b _ rfl 66 p.at _ rw_u8 P.out (by omega) ?_; rw [Pic.at_ink1 _ _ (8 * k + j) (by omega), HV.out]))
                  go_roundw
                  case rel => exact ⟨j + 1, by omega, by go_num, HG.out, hB.out, P.out⟩
                  case measure => simp [intOf]; omega
                · have hg2 : decide (0 < v) = true := by simp; omega
                  cases hh : hasP p j k
                  · have HN := Go.Lib.hid (hno.out (by rw [hpl.out, hh]; simp; omega))
                    rw [hh] at HI
                    clear hno hgo hpl hh hv3 hv0
                    go_wp2_with (first
                      | go_skip
                      | ((first | (with_reducible refine wlAt 36 rfl ?_) | (with_reducible refine wlAt 46 rfl ?_)); refine wpList_ld1 5 _ rfl (by first | exact want_n rfl | exact want_g _ _ _ rfl rfl rfl) b _ rfl 66 p.at _ rw_u8 P.out (by omega) ?_; rw [Pic.at_ink1 _ _ (8 * k + j) (by omega), HV.out])
                      | (go_at_call 135; (refine (HI.out _ P.out).mono ?_; rintro e w1 ⟨rfl, hb⟩; replace P := Go.Lib.hid (row_next hb P.out); replace hB := Go.Lib.hid (below_next hB.out hb); clear hb)))
                    go_ret
                    exact ⟨by rw [HN.out]; rfl, hB.out⟩
                  · have HG := Go.Lib.hid (hgo.out (by rw [hpl.out, hh]; simp [hv3]))
                    rw [hh] at HI
                    clear hno hgo hpl hh hv3 hv0
                    go_wp2_with (first
                      | go_skip
                      | ((first | (with_reducible refine wlAt 36 rfl ?_) | (with_reducible refine wlAt 46 rfl ?_)); refine wpList_ld1 5 _ rfl (by first | exact want_n rfl | exact want_g _ _ _ rfl rfl rfl) b _ rfl 66 p.at _ rw_u8 P.out (by omega) ?_; rw [Pic.at_ink1 _ _ (8 * k + j) (by omega), HV.out])
                      | (go_at_call 135; (refine (HI.out _ P.out).mono ?_; rintro e w1 ⟨rfl, hb⟩; replace P := Go.Lib.hid (row_next hb P.out); replace hB := Go.Lib.hid (below_next hB.out hb); clear hb)))
                    go_roundw
                    case rel => exact ⟨j + 1, by omega, by go_num, HG.out, hB.out, P.out⟩
                    case measure => simp [intOf]; omega
              · have hg1 : decide (3 < v) = true := by simp; omega
                have HN := Go.Lib.hid (hno.out (by rw [hpl.out]; simp [hv3]))
                clear hno hgo hpl HI hv3
                go_wp2_with (first
                  | go_skip
                  | ((first | (with_reducible refine wlAt 36 rfl ?_) | (with_reducible refine wlAt 46 rfl ?_)); refine wpList_ld1 5 _ rfl (by first | exact want_n rfl | exact want_g _ _ _ rfl rfl rfl) b _ rfl 66 p.at _ rw_u8 P.out (by omega) ?_; rw [Pic.at_ink1 _ _ (8 * k + j) (by omega), HV.out]))
                go_ret
                exact ⟨by rw [HN.out]; rfl, hB.out⟩
            · obtain rfl : j = 8 := by omega
              have HG := Go.Lib.hid (show ∀ x y, x < 8 → y < k + 1 → placeP p x y = true from fun x y hx hy => if e : y = k then (by subst e; exact hd.out.2 x hx) else hd.out.1 x y hx (by omega))
              clear hd
              go_wp2
              go_roundw
              case rel => exact ⟨k + 1, by omega, by go_num, HG.out, hB.out, P.out⟩
              case measure => simp [intOf]; omega
        · obtain rfl : k = 8 := by omega
          have HR := Go.Lib.hid (okP_yes p (sizeB_yes h1 h2 h3 h4) fun x y hx hy => hd.out x y hx hy)
          clear hd
          go_wp2
          go_ret
          exact ⟨by rw [HR.out]; rfl, hB.out⟩
end Go.Proofs.YtfgcpiipndhllaaDoor
