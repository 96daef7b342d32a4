import Derived.Deep.RegionHeld3
import Derived.Test.YtlhbdiddcbobjaaPSpots
import Derived.Test.YtlhbdiddcbobjaaChosP
import Derived.Test.YtlhbdiddcbobjaaPicV
import Derived.Test.YtlhbdiddcbobjaaPO
import Derived.Test.YtlhbdiddcbobjaaLdI
import Derived.Test.YtlhbdiddcbobjaaSame
import Derived.Test.YtlhbdiddcbobjaaSamePic
import Derived.Test.YtlhbdiddcbobjaaQT
import Derived.Test.YtlhbdiddcbobjaaApN
namespace Go.Proofs.Ytlhbdiddcbobjaa
open Go.RowKit
set_option maxRecDepth 100000
set_option linter.unusedVariables false
set_option linter.unusedSimpArgs false
def unl (a b : Pic) (x y : Nat) : Bool := a.ink (8 * y + x) != b.ink (8 * y + x)
theorem okP_natU {p : Pic} (h : okP p = true) : ∃ a c : Nat, p.wide = a ∧ p.high = c ∧ (1 ≤ a ∧ a ≤ 8) ∧ (1 ≤ c ∧ c ≤ 8) := by
  obtain ⟨h1, h2, h3, h4⟩ := okP_size h
  exact ⟨p.wide.toNat, p.high.toNat, by omega, by omega, by omega, by omega⟩
set_option maxHeartbeats 2000000 in
theorem specUnl_bad (p q : Pic) (px py : Nat → Int) (w : World) (hf : p.fit) (hg : q.fit) (h : okP p = false ∨ (okP p = true ∧ okP q = false)) : Calls Try.prog 9 #[.agg p.row, .agg q.row] w fun e w' => ∃ v, e = .returned (.tuple #[v, .int .i64 1]) ∧ SlP w' v 0 px py w'.heap.size ∧ Below w.heap.size w w' := by
  have HO := Go.Lib.hid fun w' h => okP_from w' p w.heap.size w' h hf (Below.refl _ _)
  have HU := Go.Lib.hid fun w' h => okP_from w' q (w.heap.size + 1) w' h hg (Below.refl _ _)
  have P : Hid ((((w.alloc (.cells (vrow 66 p.at) 26)).alloc (.cells (vrow 66 q.at) 26)).alloc (.cells #[] 49)).heap[w.heap.size]? = some (.cells (vrow 66 p.at) 26)) := heap_past _ _ _ _ (by simp <;> omega) (heap_past _ _ _ _ (by simp <;> omega) (heap_at _ _ _ (by simp)))
  have Q : Hid ((((w.alloc (.cells (vrow 66 p.at) 26)).alloc (.cells (vrow 66 q.at) 26)).alloc (.cells #[] 49)).heap[w.heap.size + 1]? = some (.cells (vrow 66 q.at) 26)) := heap_past _ _ _ _ (by simp <;> omega) (heap_at _ _ _ (by simp))
  have O : Hid ((((w.alloc (.cells (vrow 66 p.at) 26)).alloc (.cells (vrow 66 q.at) 26)).alloc (.cells #[] 49)).ownsRow (w.heap.size + 1 + 1) 49 2 (.slice (some ⟨w.heap.size + 1 + 1, 0, none⟩) 0 0) 0 []) := by have h : (((w.alloc (.cells (vrow 66 p.at) 26)).alloc (.cells (vrow 66 q.at) 26)).alloc (.cells #[] 49)).ownsRow ((w.alloc (.cells (vrow 66 p.at) 26)).alloc (.cells (vrow 66 q.at) 26)).heap.size 49 2 (.slice (some ⟨((w.alloc (.cells (vrow 66 p.at) 26)).alloc (.cells (vrow 66 q.at) 26)).heap.size, 0, none⟩) 0 0) 0 [] := World.ownsRow_made ((w.alloc (.cells (vrow 66 p.at) 26)).alloc (.cells (vrow 66 q.at) 26)) #[] 0 (Nat.le_refl _) (by decide) rfl; rw [show ((w.alloc (.cells (vrow 66 p.at) 26)).alloc (.cells (vrow 66 q.at) 26)).heap.size = w.heap.size + 1 + 1 by simp] at h; exact h
  have hB : Hid (Below w.heap.size w (((w.alloc (.cells (vrow 66 p.at) 26)).alloc (.cells (vrow 66 q.at) 26)).alloc (.cells #[] 49))) := ((((Below.refl w.heap.size w).alloc (by simp <;> omega) _).alloc (by simp <;> omega) _).alloc (by simp <;> omega) _)
  have F0 : Hid True := Go.Lib.hid trivial
  rcases h with h1 | ⟨h1, h2⟩
  · rw [h1] at HO
    go_enter Try.func9, Try.ntmps9
    go_wp2_with (first
      | go_skip
      | (go_at_call 21; replace F0 := F0.out; clear F0; (refine (HO.out _ P.out).mono ?_; rintro e w1 ⟨rfl, hb⟩; replace P := Go.Lib.hid (row_next hb P.out); replace Q := Go.Lib.hid (row_next hb Q.out); replace O := Go.Lib.hid (O.out.kept (grown_next (grown_refl _ none) hb) (by cases hv : Value.ownBlock _ <;> simp)); replace hB := Go.Lib.hid (below_next hB.out hb); clear hb))
      | (go_at_call 21; (refine (HU.out _ Q.out).mono ?_; rintro e w1 ⟨rfl, hb⟩; replace P := Go.Lib.hid (row_next hb P.out); replace Q := Go.Lib.hid (row_next hb Q.out); replace O := Go.Lib.hid (O.out.kept (grown_next (grown_refl _ none) hb) (by cases hv : Value.ownBlock _ <;> simp)); replace hB := Go.Lib.hid (below_next hB.out hb); clear hb)))
    go_ret2
    exact ⟨_, rfl, ⟨_, _, rfl, fun h => absurd h (by omega)⟩, hB.out⟩
  · rw [h1] at HO; rw [h2] at HU
    go_enter Try.func9, Try.ntmps9
    go_wp2_with (first
      | go_skip
      | (go_at_call 21; replace F0 := F0.out; clear F0; (refine (HO.out _ P.out).mono ?_; rintro e w1 ⟨rfl, hb⟩; replace P := Go.Lib.hid (row_next hb P.out); replace Q := Go.Lib.hid (row_next hb Q.out); replace O := Go.Lib.hid (O.out.kept (grown_next (grown_refl _ none) hb) (by cases hv : Value.ownBlock _ <;> simp)); replace hB := Go.Lib.hid (below_next hB.out hb); clear hb))
      | (go_at_call 21; (refine (HU.out _ Q.out).mono ?_; rintro e w1 ⟨rfl, hb⟩; replace P := Go.Lib.hid (row_next hb P.out); replace Q := Go.Lib.hid (row_next hb Q.out); replace O := Go.Lib.hid (O.out.kept (grown_next (grown_refl _ none) hb) (by cases hv : Value.ownBlock _ <;> simp)); replace hB := Go.Lib.hid (below_next hB.out hb); clear hb)))
    go_ret2
    exact ⟨_, rfl, ⟨_, _, rfl, fun h => absurd h (by omega)⟩, hB.out⟩
set_option maxHeartbeats 2000000 in
theorem specUnl_state (p q : Pic) (px py : Nat → Int) (w : World) (hf : p.fit) (hg : q.fit) (h1 : okP p = true) (h2 : okP q = true) (h : p.wide ≠ q.wide ∨ (p.wide = q.wide ∧ p.high ≠ q.high)) : Calls Try.prog 9 #[.agg p.row, .agg q.row] w fun e w' => ∃ v, e = .returned (.tuple #[v, .int .i64 4]) ∧ SlP w' v 0 px py w'.heap.size ∧ Below w.heap.size w w' := by
  have HO := Go.Lib.hid fun w' h => okP_from w' p w.heap.size w' h hf (Below.refl _ _)
  have HU := Go.Lib.hid fun w' h => okP_from w' q (w.heap.size + 1) w' h hg (Below.refl _ _)
  rw [h1] at HO; rw [h2] at HU
  have P : Hid ((((w.alloc (.cells (vrow 66 p.at) 26)).alloc (.cells (vrow 66 q.at) 26)).alloc (.cells #[] 49)).heap[w.heap.size]? = some (.cells (vrow 66 p.at) 26)) := heap_past _ _ _ _ (by simp <;> omega) (heap_past _ _ _ _ (by simp <;> omega) (heap_at _ _ _ (by simp)))
  have Q : Hid ((((w.alloc (.cells (vrow 66 p.at) 26)).alloc (.cells (vrow 66 q.at) 26)).alloc (.cells #[] 49)).heap[w.heap.size + 1]? = some (.cells (vrow 66 q.at) 26)) := heap_past _ _ _ _ (by simp <;> omega) (heap_at _ _ _ (by simp))
  have O : Hid ((((w.alloc (.cells (vrow 66 p.at) 26)).alloc (.cells (vrow 66 q.at) 26)).alloc (.cells #[] 49)).ownsRow (w.heap.size + 1 + 1) 49 2 (.slice (some ⟨w.heap.size + 1 + 1, 0, none⟩) 0 0) 0 []) := by have h : (((w.alloc (.cells (vrow 66 p.at) 26)).alloc (.cells (vrow 66 q.at) 26)).alloc (.cells #[] 49)).ownsRow ((w.alloc (.cells (vrow 66 p.at) 26)).alloc (.cells (vrow 66 q.at) 26)).heap.size 49 2 (.slice (some ⟨((w.alloc (.cells (vrow 66 p.at) 26)).alloc (.cells (vrow 66 q.at) 26)).heap.size, 0, none⟩) 0 0) 0 [] := World.ownsRow_made ((w.alloc (.cells (vrow 66 p.at) 26)).alloc (.cells (vrow 66 q.at) 26)) #[] 0 (Nat.le_refl _) (by decide) rfl; rw [show ((w.alloc (.cells (vrow 66 p.at) 26)).alloc (.cells (vrow 66 q.at) 26)).heap.size = w.heap.size + 1 + 1 by simp] at h; exact h
  have hB : Hid (Below w.heap.size w (((w.alloc (.cells (vrow 66 p.at) 26)).alloc (.cells (vrow 66 q.at) 26)).alloc (.cells #[] 49))) := ((((Below.refl w.heap.size w).alloc (by simp <;> omega) _).alloc (by simp <;> omega) _).alloc (by simp <;> omega) _)
  have F0 : Hid True := Go.Lib.hid trivial
  rcases h with h3 | ⟨h3, h4⟩
  · have g1 : (p.wide != q.wide) = true := by simpa using h3
    have g2 : (p.wide == q.wide) = false := by simpa using h3
    clear h1 h2 h3
    go_enter Try.func9, Try.ntmps9
    go_wp2_with (first
      | go_skip
      | (go_at_call 21; replace F0 := F0.out; clear F0; (refine (HO.out _ P.out).mono ?_; rintro e w1 ⟨rfl, hb⟩; replace P := Go.Lib.hid (row_next hb P.out); replace Q := Go.Lib.hid (row_next hb Q.out); replace O := Go.Lib.hid (O.out.kept (grown_next (grown_refl _ none) hb) (by cases hv : Value.ownBlock _ <;> simp)); replace hB := Go.Lib.hid (below_next hB.out hb); clear hb))
      | (go_at_call 21; (refine (HU.out _ Q.out).mono ?_; rintro e w1 ⟨rfl, hb⟩; replace P := Go.Lib.hid (row_next hb P.out); replace Q := Go.Lib.hid (row_next hb Q.out); replace O := Go.Lib.hid (O.out.kept (grown_next (grown_refl _ none) hb) (by cases hv : Value.ownBlock _ <;> simp)); replace hB := Go.Lib.hid (below_next hB.out hb); clear hb))
      | ((with_reducible refine wlAt 18 rfl ?_); refine wpList_ld1 22 _ rfl (by first | exact want_n rfl | exact want_g _ _ _ rfl rfl rfl) (w.heap.size) _ rfl 66 p.at _ rw_i8 P.out (by omega) ?_; rw [Pic.at_0])
      | ((with_reducible refine wlAt 20 rfl ?_); refine wpList_ld1 22 _ rfl (by first | exact want_n rfl | exact want_g _ _ _ rfl rfl rfl) (w.heap.size + 1) _ rfl 66 q.at _ rw_i8 Q.out (by omega) ?_; rw [Pic.at_0]))
    go_ret2
    exact ⟨_, rfl, ⟨_, _, rfl, fun h => absurd h (by omega)⟩, hB.out⟩
  · have g1 : (p.high != q.high) = true := by simpa using h4
    have g2 : (p.high == q.high) = false := by simpa using h4
    have H3 := Go.Lib.hid h3
    clear h1 h2 h3 h4
    go_enter Try.func9, Try.ntmps9
    go_wp2_with (first
      | go_skip
      | (go_at_call 21; replace F0 := F0.out; clear F0; (refine (HO.out _ P.out).mono ?_; rintro e w1 ⟨rfl, hb⟩; replace P := Go.Lib.hid (row_next hb P.out); replace Q := Go.Lib.hid (row_next hb Q.out); replace O := Go.Lib.hid (O.out.kept (grown_next (grown_refl _ none) hb) (by cases hv : Value.ownBlock _ <;> simp)); replace hB := Go.Lib.hid (below_next hB.out hb); clear hb))
      | (go_at_call 21; (refine (HU.out _ Q.out).mono ?_; rintro e w1 ⟨rfl, hb⟩; replace P := Go.Lib.hid (row_next hb P.out); replace Q := Go.Lib.hid (row_next hb Q.out); replace O := Go.Lib.hid (O.out.kept (grown_next (grown_refl _ none) hb) (by cases hv : Value.ownBlock _ <;> simp)); replace hB := Go.Lib.hid (below_next hB.out hb); clear hb))
      | (((with_reducible refine wlAt 18 rfl ?_); refine wpList_ld1 22 _ rfl (by first | exact want_n rfl | exact want_g _ _ _ rfl rfl rfl) (w.heap.size) _ rfl 66 p.at _ rw_i8 P.out (by omega) ?_; rw [Pic.at_0]); rw [H3.out])
      | ((with_reducible refine wlAt 20 rfl ?_); refine wpList_ld1 22 _ rfl (by first | exact want_n rfl | exact want_g _ _ _ rfl rfl rfl) (w.heap.size + 1) _ rfl 66 q.at _ rw_i8 Q.out (by omega) ?_; rw [Pic.at_0])
      | ((with_reducible refine wlAt 24 rfl ?_); refine wpList_ld1 22 _ rfl (by first | exact want_n rfl | exact want_g _ _ _ rfl rfl rfl) (w.heap.size) _ rfl 66 p.at _ rw_i8 P.out (by omega) ?_; rw [Pic.at_1])
      | ((with_reducible refine wlAt 26 rfl ?_); refine wpList_ld1 22 _ rfl (by first | exact want_n rfl | exact want_g _ _ _ rfl rfl rfl) (w.heap.size + 1) _ rfl 66 q.at _ rw_i8 Q.out (by omega) ?_; rw [Pic.at_1]))
    go_ret2
    exact ⟨_, rfl, ⟨_, _, rfl, fun h => absurd h (by omega)⟩, hB.out⟩
set_option maxRecDepth 100000 in
set_option maxHeartbeats 8000000 in
theorem specUnl_ok (p q : Pic) (a c : Nat) (w : World) (hf : p.fit) (hg : q.fit) (h1 : okP p = true) (h2 : okP q = true) (h3 : p.wide = q.wide) (h4 : p.high = q.high) (ea : p.wide = a) (ec : p.high = c) (ha : 1 ≤ a ∧ a ≤ 8) (hc : 1 ≤ c ∧ c ≤ 8) : Calls Try.prog 9 #[.agg p.row, .agg q.row] w fun e w' => ∃ v, e = .returned (.tuple #[v, .int .i64 0]) ∧ w'.ownsRow w.heap.size 49 2 v (fl (unl p q) (cellsL a c)).length (vals (fl (unl p q) (cellsL a c))) ∧ Below w.heap.size w w' := by
  obtain ⟨i0, hi, hz0, hz1, hz2⟩ := info_parts info_spot
  have HO := Go.Lib.hid fun w' h => okP_from w' p w.heap.size w' h hf (Below.refl _ _)
  have HU := Go.Lib.hid fun w' h => okP_from w' q (w.heap.size + 1) w' h hg (Below.refl _ _)
  rw [h1] at HO; rw [h2] at HU
  have HSp := Go.Lib.hid fun w' hs => pspots_any p w.heap.size a c w' hs ea ec ha.2 hc.2
  have hLn : (cellsL a c).length = a * c := cellsL_length a c
  have hac : 1 ≤ (cellsL a c).length ∧ (cellsL a c).length ≤ 64 := by rw [hLn]; exact ⟨Nat.mul_le_mul ha.1 hc.1, Nat.mul_le_mul ha.2 hc.2⟩
  have H3 := Go.Lib.hid h3; have H4 := Go.Lib.hid h4
  generalize (cellsL a c) = L at *
  clear hLn ea ec h1 h2 h3 h4
  have P : Hid ((((w.alloc (.cells (vrow 66 p.at) 26)).alloc (.cells (vrow 66 q.at) 26)).alloc (.cells #[] 49)).heap[w.heap.size]? = some (.cells (vrow 66 p.at) 26)) := heap_past _ _ _ _ (by simp <;> omega) (heap_past _ _ _ _ (by simp <;> omega) (heap_at _ _ _ (by simp)))
  have Q : Hid ((((w.alloc (.cells (vrow 66 p.at) 26)).alloc (.cells (vrow 66 q.at) 26)).alloc (.cells #[] 49)).heap[w.heap.size + 1]? = some (.cells (vrow 66 q.at) 26)) := heap_past _ _ _ _ (by simp <;> omega) (heap_at _ _ _ (by simp))
  have O : Hid ((((w.alloc (.cells (vrow 66 p.at) 26)).alloc (.cells (vrow 66 q.at) 26)).alloc (.cells #[] 49)).ownsRow (w.heap.size + 1 + 1) 49 2 (.slice (some ⟨w.heap.size + 1 + 1, 0, none⟩) 0 0) 0 []) := by have h : (((w.alloc (.cells (vrow 66 p.at) 26)).alloc (.cells (vrow 66 q.at) 26)).alloc (.cells #[] 49)).ownsRow ((w.alloc (.cells (vrow 66 p.at) 26)).alloc (.cells (vrow 66 q.at) 26)).heap.size 49 2 (.slice (some ⟨((w.alloc (.cells (vrow 66 p.at) 26)).alloc (.cells (vrow 66 q.at) 26)).heap.size, 0, none⟩) 0 0) 0 [] := World.ownsRow_made ((w.alloc (.cells (vrow 66 p.at) 26)).alloc (.cells (vrow 66 q.at) 26)) #[] 0 (Nat.le_refl _) (by decide) rfl; rw [show ((w.alloc (.cells (vrow 66 p.at) 26)).alloc (.cells (vrow 66 q.at) 26)).heap.size = w.heap.size + 1 + 1 by simp] at h; exact h
  have hB : Hid (Below w.heap.size w (((w.alloc (.cells (vrow 66 p.at) 26)).alloc (.cells (vrow 66 q.at) 26)).alloc (.cells #[] 49))) := ((((Below.refl w.heap.size w).alloc (by simp <;> omega) _).alloc (by simp <;> omega) _).alloc (by simp <;> omega) _)
  have F0 : Hid True := Go.Lib.hid trivial
  go_enter Try.func9, Try.ntmps9
  go_wp2_with (first
    | go_skip
    | (go_at_call 21; replace F0 := F0.out; clear F0; (refine (HO.out _ P.out).mono ?_; rintro e w1 ⟨rfl, hb⟩; replace P := Go.Lib.hid (row_next hb P.out); replace Q := Go.Lib.hid (row_next hb Q.out); replace O := Go.Lib.hid (O.out.kept (grown_next (grown_refl _ none) hb) (by cases hv : Value.ownBlock _ <;> simp)); replace hB := Go.Lib.hid (below_next hB.out hb); clear hb))
    | (go_at_call 21; (refine (HU.out _ Q.out).mono ?_; rintro e w1 ⟨rfl, hb⟩; replace P := Go.Lib.hid (row_next hb P.out); replace Q := Go.Lib.hid (row_next hb Q.out); replace O := Go.Lib.hid (O.out.kept (grown_next (grown_refl _ none) hb) (by cases hv : Value.ownBlock _ <;> simp)); replace hB := Go.Lib.hid (below_next hB.out hb); clear hb))
    | (((with_reducible refine wlAt 18 rfl ?_); refine wpList_ld1 22 _ rfl (by first | exact want_n rfl | exact want_g _ _ _ rfl rfl rfl) (w.heap.size) _ rfl 66 p.at _ rw_i8 P.out (by omega) ?_; rw [Pic.at_0]); rw [H3.out])
    | ((with_reducible refine wlAt 20 rfl ?_); refine wpList_ld1 22 _ rfl (by first | exact want_n rfl | exact want_g _ _ _ rfl rfl rfl) (w.heap.size + 1) _ rfl 66 q.at _ rw_i8 Q.out (by omega) ?_; rw [Pic.at_0])
    | (((with_reducible refine wlAt 24 rfl ?_); refine wpList_ld1 22 _ rfl (by first | exact want_n rfl | exact want_g _ _ _ rfl rfl rfl) (w.heap.size) _ rfl 66 p.at _ rw_i8 P.out (by omega) ?_; rw [Pic.at_1]); rw [H4.out])
    | ((with_reducible refine wlAt 26 rfl ?_); refine wpList_ld1 22 _ rfl (by first | exact want_n rfl | exact want_g _ _ _ rfl rfl rfl) (w.heap.size + 1) _ rfl 66 q.at _ rw_i8 Q.out (by omega) ?_; rw [Pic.at_1])
    | (go_at_call 22; (refine (HSp.out _ P.out).mono ?_; rintro e w3 ⟨v, rfl, hO, hb⟩; have hg3 := hB.out.size; have hd3 := row_lt Q.out; have hoN := O.out.lt; obtain ⟨g, cap, f, rfl, hgb, hcap, hO2, hf2⟩ := hO.row (by omega); have hov := O.out.lt; replace P := Go.Lib.hid (row_next hb P.out); replace Q := Go.Lib.hid (row_next hb Q.out); replace O := Go.Lib.hid (O.out.kept (grown_next (grown_refl _ none) hb) (by cases hv : Value.ownBlock _ <;> simp)); replace hB := Go.Lib.hid (below_next hB.out hb); clear hb; have G := Go.Lib.hid hO2; have HF := Go.Lib.hid hf2; clear hO hO2 hf2)))
  have hgz : w.heap.size + 1 + 1 < g := by have := (hoN (w.heap.size + 1 + 1) rfl).2; omega
  have P0 := P.out; have Q0 := Q.out; have O0 := O.out; have G0 := G.out; have B0 := hB.out
  have hgn : (Value.slice (some ⟨w.heap.size + 1 + 1, 0, none⟩) 0 0).ownBlock ≠ some g := by simp only [Value.ownBlock, ne_eq, Option.some.injEq]; omega
  go_loopw [6, 8] (fun v iv wr => ∃ k : Nat, k ≤ L.length ∧ iv = .int .i64 k ∧ wr.ownsRow (w.heap.size + 1 + 1) 49 2 v (fl (unl p q) (L.take k)).length (vals (fl (unl p q) (L.take k))) ∧ v.ownBlock ≠ some g ∧ wr.heap[w.heap.size]? = some (.cells (vrow 66 p.at) 26) ∧ wr.heap[w.heap.size + 1]? = some (.cells (vrow 66 q.at) 26) ∧ wr.heap[g]? = some (.cells (vrow (cap * 2) f) 49) ∧ Below w.heap.size w wr) (fun _ iv _ => L.length - (intOf iv).toNat)
  case atStart => exact ⟨0, by omega, rfl, by simpa [fl, vals] using O0, hgn, P0, Q0, G0, B0⟩
  case round =>
    clear P Q O G hB P0 Q0 O0 G0 B0 hgn hov
    obtain ⟨k, hk, rfl, O, hgn, P, Q, G, hB⟩ := hrel
    by_cases hlt : k < L.length
    · have hf2 := HF.out k hlt
      obtain ⟨⟨⟨i, j⟩, hi8, hj8⟩, hp⟩ : ∃ z, L[k]'hlt = z := ⟨_, rfl⟩
      have hap : fl (unl p q) (L.take (k + 1)) = fl (unl p q) (L.take k) ++ (if unl p q i j then [⟨(i, j), hi8, hj8⟩] else []) := by
        rw [List.take_succ_eq_append_getElem hlt, hp, fl_app]
      have hle : (fl (unl p q) (L.take k)).length ≤ 64 := Nat.le_trans (fl_len _ _) (by rw [List.length_take]; omega)
      rw [hp] at hf2
      clear hp
      replace hi8 : i < 8 := hi8
      replace hj8 : j < 8 := hj8
      obtain ⟨fx0, fx1⟩ : f (k * 2) = .int .i8 i ∧ f (k * 2 + 1) = .int .i8 j := hf2
      have hR : (vrow 2 fun z => f (k * 2 + z)) = #[.int .i8 i, .int .i8 j] := by
        rw [show (#[.int .i8 i, .int .i8 j] : Array Value) = vrow 2 (spAt i j) from rfl]
        refine vrow_ext _ _ _ fun z hz => ?_
        have hz2 : z = 0 ∨ z = 1 := by omega
        rcases hz2 with rfl | rfl
        · rw [Nat.add_zero, fx0]; rfl
        · rw [fx1]; rfl
      have HR := Go.Lib.hid hR; have HAP := Go.Lib.hid hap; have FX0 := Go.Lib.hid fx0; have FX1 := Go.Lib.hid fx1; have HGN := Go.Lib.hid hgn
      clear fx0 fx1 hap hR hgn
      generalize fl (unl p q) (L.take k) = M at *
      replace P := Go.Lib.hid P; replace Q := Go.Lib.hid Q; replace G := Go.Lib.hid G; replace O := Go.Lib.hid O; replace hB := Go.Lib.hid hB
      have hkI : (k : Int) < (L.length : Int) := by omega
      have hk0 : (0 : Int) ≤ (k : Int) := by omega
      have hkd : decide ((k : Int) < (L.length : Int)) = true := by simpa using hkI
      have hiI : (i : Int) < 8 := by omega
      have hjI : (j : Int) < 8 := by omega
      have hun : unl p q i j = (p.ink (8 * j + i) != q.ink (8 * j + i)) := rfl
      obtain ⟨v1, hv1⟩ : ∃ v, p.ink (8 * j + i) = v := ⟨_, rfl⟩
      obtain ⟨v2, hv2⟩ : ∃ v, q.ink (8 * j + i) = v := ⟨_, rfl⟩
      have HV1 := Go.Lib.hid hv1; have HV2 := Go.Lib.hid hv2
      rw [hv1, hv2] at hun
      have HUN := Go.Lib.hid hun
      clear hv1 hv2 hun
      go_wp2
      refine region_at (by kernel_rfl) (by kernel_rfl) ?_
      intro W hW
      rw [hW] at hB P Q G O
      clear hW
      have P' := Go.Lib.hid (cls_row' P.out); have Q' := Go.Lib.hid (cls_row' Q.out); have G' := Go.Lib.hid (cls_row' G.out)
      repeat (first
        | go_big_quiet_skip
        | (refine wpQuiet_load1 5 _ rfl (by first | exact want_n rfl | exact want_g _ _ _ rfl rfl rfl) w.heap.size _ rfl 66 p.at _ rw_u8 P'.out (by omega) ?_; rw [Pic.at_ink1 _ _ (8 * j + i) (by omega), HV1.out]; simp only [Act.put, List.setIfInBounds_toArray, List.set_cons_succ, List.set_cons_zero])
        | (refine wpQuiet_load1 5 _ rfl (by first | exact want_n rfl | exact want_g _ _ _ rfl rfl rfl) (w.heap.size + 1) _ rfl 66 q.at _ rw_u8 Q'.out (by omega) ?_; rw [Pic.at_ink1 _ _ (8 * j + i) (by omega), HV2.out]; simp only [Act.put, List.setIfInBounds_toArray, List.set_cons_succ, List.set_cons_zero])
        | (refine wpQuiet_load1 22 _ rfl (by first | exact want_n rfl | exact want_g _ _ _ rfl rfl rfl) g _ rfl (cap * 2) f _ rw_i8 G'.out (by omega) ?_; (first | rw [FX1.out] | rw [FX0.out]); simp only [Act.put, List.setIfInBounds_toArray, List.set_cons_succ, List.set_cons_zero])
        | go_big_quiet_step (fail))
      refine wpQuiet_nil ?_
      intro W2 hb
      replace P := Go.Lib.hid (row_next hb P.out); replace Q := Go.Lib.hid (row_next hb Q.out); replace G := Go.Lib.hid (row_next hb G.out); replace O := Go.Lib.hid (O.out.kept (grown_next (grown_refl _ none) hb) (by cases hv : Value.ownBlock _ <;> simp)); replace hB := Go.Lib.hid (below_next hB.out hb)
      clear hb P' Q' G'
      cases hq : (v1 != v2)
      · have HAP2 := Go.Lib.hid (show fl (unl p q) (L.take (k + 1)) = M by rw [HAP.out, HUN.out, hq, if_neg (by simp), List.append_nil])
        go_wp2
        go_roundw
        case rel => exact ⟨k + 1, by omega, by go_num, by rw [HAP2.out]; exact O.out, HGN.out, P.out, Q.out, G.out, hB.out⟩
        case measure => simp [intOf]; omega
      · have HAP2 := Go.Lib.hid (show fl (unl p q) (L.take (k + 1)) = M ++ [⟨(i, j), hi8, hj8⟩] by rw [HAP.out, HUN.out, hq, if_pos rfl])
        go_wp2_with (first
          | go_skip
          | ((with_reducible refine wlAt 70 rfl ?_); refine wpList_loadmid rfl 49 (.tmp 69) rfl g (k * 2) rfl (cap * 2) 2 f 49 _ Try.underlying49 rfl size_spot G.out (by omega) ?_; rw [HR.out])
          | (at_builtin; refine wpList_append_ownN rfl (.tmp 66) (.tmp 71) 32 rfl (w.heap.size + 1 + 1) 49 i0 (.agg #[.int .i8 0, .int .i8 0]) 2 2 Try.underlying32 hi hz0 hz1 hz2 rfl (by decide) _ _ _ rfl (O.out.alloc _) ⟨W2.heap.size, 0, none⟩ 1 1 [.int .i8 i, .int .i8 j] rfl rfl (World.news_of_block (heap_at _ _ _ rfl)) (by simp [Value.oneCell']) (by simp only [maxLen]; omega) (by omega) (by have := hB.out.size; have := row_lt Q.out; simp; omega) ?_; intro v' w4 hown' hgrow hnb))
        have hov := O.out.lt
        have lp := row_lt P.out; have lq := row_lt Q.out; have lg := row_lt G.out; have lb := hB.out.size
        have P1 : w4.heap[w.heap.size]? = some (.cells (vrow 66 p.at) 26) := (hgrow.block _ (by simp; omega) (fun e => by have := (hov _ e.symm).1; omega)).trans (heap_past _ _ _ _ lp P.out)
        have Q1 : w4.heap[w.heap.size + 1]? = some (.cells (vrow 66 q.at) 26) := (hgrow.block _ (by simp; omega) (fun e => by have := (hov _ e.symm).1; omega)).trans (heap_past _ _ _ _ lq Q.out)
        have G1 : w4.heap[g]? = some (.cells (vrow (cap * 2) f) 49) := (hgrow.block g (by simp; omega) (Ne.symm HGN.out)).trans (heap_past _ _ _ _ lg G.out)
        have B1 : Below w.heap.size w w4 := (hB.out.alloc hB.out.size _).grown hgrow (by simp; omega) (fun z hz => by have := (hov z hz).1; omega)
        have hgn1 : v'.ownBlock ≠ some g := by
          rcases hnb with h | ⟨z, h, hz⟩
          · rw [h]; exact HGN.out
          · rw [h]; simp at hz ⊢; omega
        go_roundw
        case rel => exact ⟨k + 1, by omega, by go_num, by rw [HAP2.out, List.length_append, vals_app, vals_one]; exact hown', hgn1, P1, Q1, G1, B1⟩
        case measure => simp [intOf]; omega
    · obtain rfl : k = L.length := by omega
      rw [List.take_length] at O
      have hkd : decide ((L.length : Int) < (L.length : Int)) = false := by simp
      replace O := Go.Lib.hid O; replace hB := Go.Lib.hid hB
      go_wp2
      go_ret2
      exact ⟨_, rfl, own_mono (by omega) O.out, hB.out⟩
end Go.Proofs.Ytlhbdiddcbobjaa
