import Derived.Test.YtdigbikldkkhpaaOpenPic
import Derived.Test.YtdigbikldkkhpaaG1
namespace Go.Proofs.Ytdigbikldkkhpaa
open Go.RowKit
set_option maxRecDepth 100000
set_option linter.unusedVariables false
set_option linter.unusedSimpArgs false
def hasP (p : Pic) (x y : Int) : Bool := insB p.wide p.high x y
set_option maxHeartbeats 400000 in
theorem hasP_any (p : Pic) (x y : Int) (w : World) : Calls Try.prog 20 #[.agg p.row, .agg #[.int .i8 x, .int .i8 y]] w fun e w' => e = .returned (.bool (hasP p x y)) ∧ Below w.heap.size w w' := by
  rw [sp_vrow]
  have hB : Hid (Below w.heap.size w ((w.alloc (.cells (vrow 66 p.at) 27)).alloc (.cells (vrow 2 (spAt x y)) 38))) := (((Below.refl w.heap.size w).alloc (by simp <;> omega) _).alloc (by simp <;> omega) _)
  have P : Hid (((w.alloc (.cells (vrow 66 p.at) 27)).alloc (.cells (vrow 2 (spAt x y)) 38)).heap[(w.heap.size)]? = some (.cells (vrow 66 p.at) 27)) := heap_past _ _ _ _ (by first | omega | (simp <;> omega)) (heap_at _ _ _ (by simp))
  have R : Hid (((w.alloc (.cells (vrow 66 p.at) 27)).alloc (.cells (vrow 2 (spAt x y)) 38)).heap[(w.heap.size + 1)]? = some (.cells (vrow 2 (spAt x y)) 38)) := heap_at _ _ _ (by simp)
  have HC := Go.Lib.hid (fun w => inside_any p.wide p.high x y w)
  go_enter Try.func20, Try.ntmps20
  go_wp2_with (first
    | (refine wpList_ld1 24 _ rfl (by first | exact want_n rfl | exact want_g _ _ _ rfl rfl rfl) (w.heap.size) _ rfl 66 p.at _ rw_i8 P.out (by omega) ?_; (first | rw [Pic.at_0] | rw [Pic.at_1]))
    | (refine wpList_ldm 38 _ rfl (by first | exact want_n rfl | exact want_g _ _ _ rfl rfl rfl) (w.heap.size + 1) _ rfl 2 2 (spAt x y) _ rw_spot size_spot R.out (by omega) ?_; rw [sp_row])
    | (go_at_call 24; (refine (HC.out _).mono ?_; rintro e w1 ⟨rfl, hb⟩; replace hB := Go.Lib.hid (below_next hB.out hb); clear hb)))
  go_ret
  exact ⟨rfl, hB.out⟩
set_option maxHeartbeats 400000 in
theorem pis_any (s : Pic) (b : Nat) (x y : Int) (w : World) (hs : w.heap[b]? = some (.cells s.row 27)) (hf : s.fit) (hx : -128 ≤ x ∧ x ≤ 127) (hy : -128 ≤ y ∧ y ≤ 127) : Calls Try.prog 9 #[.pointer (some ⟨b, 0, none⟩), .agg #[.int .i8 x, .int .i8 y]] w fun e w' => e = .returned (.bool (hasP s x y)) ∧ Below w.heap.size w w' := by
  rw [sp_vrow]
  have hf1 := hf.wide; have hf2 := hf.high
  clear hf
  have hB : Hid (Below w.heap.size w (w.alloc (.cells (vrow 2 (spAt x y)) 38))) := ((Below.refl w.heap.size w).alloc (by simp <;> omega) _)
  have R : Hid ((w.alloc (.cells (vrow 2 (spAt x y)) 38)).heap[(w.heap.size)]? = some (.cells (vrow 2 (spAt x y)) 38)) := heap_at _ _ _ (by simp)
  have P : Hid ((w.alloc (.cells (vrow 2 (spAt x y)) 38)).heap[b]? = some (.cells (vrow 66 s.at) 27)) := heap_past _ _ _ _ (by first | (have := row_lt hs; omega) | (have := row_lt hs; simp <;> omega)) (hs)
  by_cases h1 : 0 ≤ x ∧ x ≤ s.wide - 1
  · obtain ⟨h1, h2⟩ := h1
    by_cases h3 : 0 ≤ y ∧ y ≤ s.high - 1
    · obtain ⟨h3, h4⟩ := h3
      go_enter Try.func9, Try.ntmps9
      go_wp2
      (refine region_at (by kernel_rfl) (by kernel_rfl) ?_; intro W hW; rw [hW] at hB P R; clear hW; have P' := Go.Lib.hid (cls_row' P.out); have R' := Go.Lib.hid (cls_row' R.out); (repeat (first | go_big_quiet_skip | (refine wpQuiet_load1 24 _ rfl (by first | exact want_n rfl | exact want_g _ _ _ rfl rfl rfl) b _ rfl 66 s.at _ rw_i8 P'.out (by omega) ?_; (first | rw [Pic.at_0] | rw [Pic.at_1]); simp only [Act.put, List.setIfInBounds_toArray, List.set_cons_succ, List.set_cons_zero]) | (refine wpQuiet_load1 24 _ rfl (by first | exact want_n rfl | exact want_g _ _ _ rfl rfl rfl) (w.heap.size) _ rfl 2 (spAt x y) _ rw_i8 R'.out (by omega) ?_; (first | rw [spAt_0] | rw [spAt_1]); simp only [Act.put, List.setIfInBounds_toArray, List.set_cons_succ, List.set_cons_zero]) | go_big_quiet_step ((go_at_call 15; first | exact cls_call _ (fun w hw => in_yes _ _ _ (by omega) (by omega) w) | exact cls_call _ (fun w hw => in_no _ _ _ (by omega) w))))); refine wpQuiet_nil ?_; intro Wn hb; replace P := Go.Lib.hid (row_next hb P.out); replace R := Go.Lib.hid (row_next hb R.out); replace hB := Go.Lib.hid (below_next hB.out hb); clear hb P' R')
      go_wp2
      go_ret
      exact ⟨by simp [hasP, insB] <;> (first | omega | (intros; omega)), hB.out⟩
    · have h3' : y < 0 ∨ s.high - 1 < y := by omega
      clear h3
      go_enter Try.func9, Try.ntmps9
      go_wp2
      (refine region_at (by kernel_rfl) (by kernel_rfl) ?_; intro W hW; rw [hW] at hB P R; clear hW; have P' := Go.Lib.hid (cls_row' P.out); have R' := Go.Lib.hid (cls_row' R.out); (repeat (first | go_big_quiet_skip | (refine wpQuiet_load1 24 _ rfl (by first | exact want_n rfl | exact want_g _ _ _ rfl rfl rfl) b _ rfl 66 s.at _ rw_i8 P'.out (by omega) ?_; (first | rw [Pic.at_0] | rw [Pic.at_1]); simp only [Act.put, List.setIfInBounds_toArray, List.set_cons_succ, List.set_cons_zero]) | (refine wpQuiet_load1 24 _ rfl (by first | exact want_n rfl | exact want_g _ _ _ rfl rfl rfl) (w.heap.size) _ rfl 2 (spAt x y) _ rw_i8 R'.out (by omega) ?_; (first | rw [spAt_0] | rw [spAt_1]); simp only [Act.put, List.setIfInBounds_toArray, List.set_cons_succ, List.set_cons_zero]) | go_big_quiet_step ((go_at_call 15; first | exact cls_call _ (fun w hw => in_yes _ _ _ (by omega) (by omega) w) | exact cls_call _ (fun w hw => in_no _ _ _ (by omega) w))))); refine wpQuiet_nil ?_; intro Wn hb; replace P := Go.Lib.hid (row_next hb P.out); replace R := Go.Lib.hid (row_next hb R.out); replace hB := Go.Lib.hid (below_next hB.out hb); clear hb P' R')
      go_wp2
      go_ret
      exact ⟨by simp [hasP, insB] <;> (first | omega | (intros; omega)), hB.out⟩
  · have h1' : x < 0 ∨ s.wide - 1 < x := by omega
    clear h1
    go_enter Try.func9, Try.ntmps9
    go_wp2
    (refine region_at (by kernel_rfl) (by kernel_rfl) ?_; intro W hW; rw [hW] at hB P R; clear hW; have P' := Go.Lib.hid (cls_row' P.out); have R' := Go.Lib.hid (cls_row' R.out); (repeat (first | go_big_quiet_skip | (refine wpQuiet_load1 24 _ rfl (by first | exact want_n rfl | exact want_g _ _ _ rfl rfl rfl) b _ rfl 66 s.at _ rw_i8 P'.out (by omega) ?_; (first | rw [Pic.at_0] | rw [Pic.at_1]); simp only [Act.put, List.setIfInBounds_toArray, List.set_cons_succ, List.set_cons_zero]) | (refine wpQuiet_load1 24 _ rfl (by first | exact want_n rfl | exact want_g _ _ _ rfl rfl rfl) (w.heap.size) _ rfl 2 (spAt x y) _ rw_i8 R'.out (by omega) ?_; (first | rw [spAt_0] | rw [spAt_1]); simp only [Act.put, List.setIfInBounds_toArray, List.set_cons_succ, List.set_cons_zero]) | go_big_quiet_step ((go_at_call 15; first | exact cls_call _ (fun w hw => in_yes _ _ _ (by omega) (by omega) w) | exact cls_call _ (fun w hw => in_no _ _ _ (by omega) w))))); refine wpQuiet_nil ?_; intro Wn hb; replace P := Go.Lib.hid (row_next hb P.out); replace R := Go.Lib.hid (row_next hb R.out); replace hB := Go.Lib.hid (below_next hB.out hb); clear hb P' R')
    go_wp2
    go_ret
    exact ⟨by simp [hasP, insB] <;> (first | omega | (intros; omega)), hB.out⟩
/-- what a place of a valid picture shows -/
def placeP (p : Pic) (x y : Nat) : Bool := decide (p.ink (8 * y + x) ≤ 3) && (decide (p.ink (8 * y + x) ≤ 0) || hasP p x y)
def okP (p : Pic) : Bool := sizeB p.wide p.high && (List.range 64).all fun i => placeP p (i % 8) (i / 8)
theorem okP_no (p : Pic) {x y : Nat} (hx : x < 8) (hy : y < 8) (h : placeP p x y = false) : okP p = false := by
  have : ((List.range 64).all fun i => placeP p (i % 8) (i / 8)) = false := by
    rw [List.all_eq_false]; exact ⟨8 * y + x, by simp; omega, by rw [show (8 * y + x) % 8 = x by omega, show (8 * y + x) / 8 = y by omega, h]; simp⟩
  simp [okP, this]
theorem okP_yes (p : Pic) (h0 : sizeB p.wide p.high = true) (h : ∀ x y, x < 8 → y < 8 → placeP p x y = true) : okP p = true := by
  have : ((List.range 64).all fun i => placeP p (i % 8) (i / 8)) = true := by
    rw [List.all_eq_true]; intro i hi; simp at hi; exact h _ _ (by omega) (by omega)
  simp [okP, this, h0]
theorem okP_size {p : Pic} (h : okP p = true) : 1 ≤ p.wide ∧ p.wide ≤ 8 ∧ 1 ≤ p.high ∧ p.high ≤ 8 := by
  simp only [okP, sizeB, Bool.and_eq_true, decide_eq_true_eq] at h
  exact ⟨h.1.1, h.1.2.1, h.1.2.2.1, h.1.2.2.2⟩
theorem okP_place {p : Pic} (h : okP p = true) {x y : Nat} (hx : x < 8) (hy : y < 8) : placeP p x y = true := by
  cases hp : placeP p x y
  · rw [okP_no p hx hy hp] at h; cases h
  · rfl
theorem zero_spotP : ∀ w, (zeroValue 38).run Try.prog w = .ok (.agg (vrow 2 (spAt 0 0))) w := fun _ => by kernel_rfl
theorem spAt_oneP (x y : Int) (i : Nat) : (spAt x y i).oneCell' = true := by unfold spAt; split <;> rfl
theorem built_spP (x y : Int) : Try.prog.built 38 [(0, .int .i8 x), (1, .int .i8 y)] = some #[.int .i8 x, .int .i8 y] := by kernel_rfl
end Go.Proofs.Ytdigbikldkkhpaa
