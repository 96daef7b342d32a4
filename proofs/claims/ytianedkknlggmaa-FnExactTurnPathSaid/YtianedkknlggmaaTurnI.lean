import Derived.Test.YtianedkknlggmaaBkx
import Derived.Test.YtianedkknlggmaaGrow
import Derived.Test.YtianedkknlggmaaArms
namespace Go.Proofs.Ytianedkknlggmaa
open Go.RowKit
set_option maxRecDepth 100000
set_option linter.unusedVariables false
set_option linter.unusedSimpArgs false
theorem zero_sltB : ∀ w, (zeroValue 45).run Try.prog w = .ok (.slice none 0 0) w := fun _ => by kernel_rfl
theorem zero_sptB : ∀ w, (zeroValue 93).run Try.prog w = .ok (.agg #[.int .i8 0, .int .i8 0]) w := fun _ => by kernel_rfl
attribute [local go_sem] Oper.semAt_some
set_option maxRecDepth 100000 in
set_option maxHeartbeats 4000000 in
theorem turnP_any (D n : Nat) (px py : Nat → Int) (w : World) (hn : n ≤ 1048576) (h2 : w.heap[D]? = some (.cells (vrow (n * 2) (spf px py)) 93)) : Calls Try.prog 28 #[.slice (some ⟨D, 0, none⟩) n n] w fun e w' => e = .returned (.slice (some ⟨w.heap.size, 0, none⟩) n n) ∧ w'.ownsRow w.heap.size 93 2 (.slice (some ⟨w.heap.size, 0, none⟩) n n) n (revV px py n n) ∧ Below w.heap.size w w' := by
  obtain ⟨i0, hi, hz0, hz1, hz2⟩ := info_parts info_spotP
  have hDl := row_lt h2
  have zs := zero_sptB
  have z1 := zero_sltB
  have P := Go.Lib.hid h2
  have hBn : n * 2 ≤ 281474976710656 := by omega
  refine (callsIn_wide (n := 9)).1 ?_
  refine callsIn_of_wp_marks Try.func28 rfl trivial ?_ rfl
  simp only [Try.ntmps28, List.size_toArray, List.length_cons, List.length_nil, Nat.reduceAdd, Nat.reduceSub, Array.replicate_succ, Array.replicate_zero, List.push_toArray, List.append_toArray, List.nil_append, List.cons_append]
  refine wpIn_wide.2 ?_
  go_wp2_with (first
    | go_skip
    | (with_reducible refine wlAt 8 rfl ?_; refine wpList_make_own _ rfl (.const (.int .i64 0)) (.tmp 7) 45 rfl (w.heap.size) 93 i0 (.agg #[.int .i8 0, .int .i8 0]) 2 Try.underlying45 hi hz0 hz1 .i64 .i64 n n rfl rfl rfl (by rw [hz2]; omega) (by simp only [maxLen]; omega) (Nat.le_refl _) ?_; intro w1 hO1 hg1; simp only [Act.put, List.setIfInBounds_toArray, List.set_cons_succ, List.set_cons_zero]; have hg1s := hg1.size; have hB := Go.Lib.hid ((Below.refl w.heap.size w).grown hg1 (Nat.le_refl _) (fun q hq => by cases hq)); replace P := Go.Lib.hid ((hg1.block _ hDl (by simp)).trans P.out); have hgl1 : w.heap.size < w1.heap.size := (hO1.lt _ rfl).2; clear hg1 hg1s)
    | (with_reducible refine wlOp (.store 45 (.tmp 3) (.tmp 8)) rfl ?_; refine wpList_store1 rfl 45 (.tmp 3) (.tmp 8) rfl (w1.heap.size) 0 rfl 1 (fun _ => .slice none 0 0) (.slice (some ⟨w.heap.size, 0, none⟩) 0 n) rfl 45 size_sltB (heap_at _ _ _ rfl) (by omega) rfl ?_; rw [vrow_over_all, setRow_at _ _ _ _ _ rfl]; have LB := Go.Lib.hid (heap_at w1 (.cells (vrow 1 fun _ => (.slice (some ⟨w.heap.size, 0, none⟩) 0 n)) 45) _ rfl); replace P := Go.Lib.hid (heap_past _ (.cells (vrow 1 fun _ => (.slice (some ⟨w.heap.size, 0, none⟩) 0 n)) 45) _ _ (row_lt P.out) P.out); have O1 := Go.Lib.hid (hO1.alloc (.cells (vrow 1 fun _ => (.slice (some ⟨w.heap.size, 0, none⟩) 0 n)) 45)); replace hB := Go.Lib.hid (hB.out.alloc hB.out.size (.cells (vrow 1 fun _ => (.slice (some ⟨w.heap.size, 0, none⟩) 0 n)) 45)); generalize hlb : w1.heap.size = lb at LB hgl1 ⊢; generalize w1.alloc _ = w2 at P LB O1 hB ⊢; clear hO1 hlb)
    | (go_at_call 70; refine (back_any _ rfl _).mono ?_; rintro e w5 ⟨rfl, rfl⟩))
  have q1 := row_lt LB.out
  have q2 := row_lt P.out
  have c1 : (w2.alloc (.cells (vrow 1 fun _ => .slice (some ⟨D, 0, none⟩) n n) 45)).heap[w2.heap.size]? = some (.cells (vrow 1 fun _ => .slice (some ⟨D, 0, none⟩) n n) 45) := heap_at w2 (.cells (vrow 1 fun _ => .slice (some ⟨D, 0, none⟩) n n) 45) _ rfl
  have P0 := heap_past w2 (.cells (vrow 1 fun _ => .slice (some ⟨D, 0, none⟩) n n) 45) _ _ q2 P.out
  have LB0 := heap_past w2 (.cells (vrow 1 fun _ => .slice (some ⟨D, 0, none⟩) n n) 45) _ _ q1 LB.out
  have O10 := O1.out.alloc (.cells (vrow 1 fun _ => .slice (some ⟨D, 0, none⟩) n n) 45)
  have B0 := hB.out.alloc hB.out.size (.cells (vrow 1 fun _ => .slice (some ⟨D, 0, none⟩) n n) 45)
  have s0 : (w2.alloc (.cells (vrow 1 fun _ => .slice (some ⟨D, 0, none⟩) n n) 45)).heap.size = w2.heap.size + 1 := by simp
  have hWe : w2.alloc (.cells #[.slice (some ⟨D, 0, none⟩) n n] 45) = w2.alloc (.cells (vrow 1 fun _ => .slice (some ⟨D, 0, none⟩) n n) 45) := rfl
  rw [hWe]
  generalize w2.alloc (.cells (vrow 1 fun _ => .slice (some ⟨D, 0, none⟩) n n) 45) = W0 at c1 P0 LB0 O10 B0 s0 ⊢
  generalize w2.heap.size = bx at c1 s0 q1 q2 ⊢
  clear hWe hB O1 LB P h2
  refine wp_back (d := 5) bx D n px py hn rfl c1 P0
    (fun pre W => W.heap[D]? = some (.cells (vrow (n * 2) (spf px py)) 93) ∧ W.heap[lb]? = some (.cells (vrow 1 fun _ => (.slice (some ⟨w.heap.size, 0, none⟩) pre.length n)) 45) ∧ W.ownsRow w.heap.size 93 2 (.slice (some ⟨w.heap.size, 0, none⟩) pre.length n) pre.length (bkV px py n pre) ∧ Below w.heap.size w W)
    (fun _ _ _ => False)
    (OwnFrom.and (own_row (by omega)) (OwnFrom.and (own_rowDB (o := fun pre : List Nat => .cells (vrow 1 fun _ => (.slice (some ⟨w.heap.size, 0, none⟩) pre.length n)) 45) (by omega)) (OwnFrom.and (own_ownsRowB _ _ _) (ownFrom_below (Nat.le_refl _) (by omega)))))
    (fun c => own_pure _) ⟨P0, LB0, O10, B0⟩ ?assign ?body ?done ?stop
  case assign =>
    intro l x W K hK
    simp only [List.setIfInBounds_toArray, List.set_cons_succ, List.set_cons_zero] at hK ⊢
    gi_wp2_with (refine wpListIn_storeall rfl 93 (.tmp 5) (.tmp 12) rfl _ rfl 2 (spAt 0 0) (spAt (px (n - 1 - x)) (py (n - 1 - x))) rfl 93 size_spot (heap_at _ _ _ rfl) (fun i _ => spAt_one _ _ i) ?_; rw [setRow_at _ _ _ _ _ rfl])
    exact hK
  case body =>
    rintro l pre x Wb W Bx hK hBx R hsz ⟨P, LB, O1, hB⟩ hlen
    simp only [List.setIfInBounds_toArray, List.set_cons_succ, List.set_cons_zero] at R ⊢
    have hap : bkV px py n (pre ++ [x]) = bkV px py n pre ++ [.int .i8 (px (n - 1 - x)), .int .i8 (py (n - 1 - x))] := bkV_snoc px py n pre x
    have HAP := Go.Lib.hid hap
    have hel : (pre ++ [x]).length = pre.length + 1 := by simp
    have HEL := Go.Lib.hid hel
    clear hap hel
    have hrl := row_lt R
    have hCk := Go.Lib.hid ((CkB.start (N := W0.heap.size) (b1 := bx) (b2 := D) (X := Wb) (by omega) (by omega)).step (grown_next (grown_refl Wb none) hK) (fun j e => by cases e))
    replace R := Go.Lib.hid R; replace P := Go.Lib.hid P; replace LB := Go.Lib.hid LB; replace O1 := Go.Lib.hid O1; replace hB := Go.Lib.hid hB
    clear hK c1 P0 LB0 O10 B0
    generalize px (n - 1 - x) = X at R HAP ⊢
    generalize py (n - 1 - x) = Y at R HAP ⊢
    gi_wp2_with (first
      | (with_reducible refine wlAtB 13 rfl ?_; refine loadoneB rfl 45 (.tmp 3) rfl lb 0 rfl 1 (fun _ => (.slice (some ⟨w.heap.size, 0, none⟩) pre.length n)) 45 _ Try.underlying45 rfl LB.out (by omega) ?_)
      | (with_reducible refine wlAtB 14 rfl ?_; refine loadmidB rfl 93 (.tmp 5) rfl Bx 0 rfl 2 2 (spAt X Y) 93 _ Try.underlying93 rfl size_spot R.out (by omega) ?_; simp only [Nat.zero_add]; rw [show (vrow 2 fun i => spAt X Y i) = #[.int .i8 X, .int .i8 Y] from rfl])
      | (with_reducible refine wlAtB 16 rfl ?_; refine wpListIn_append_fits _ rfl (.tmp 13) (.tmp 15) 45 rfl w.heap.size 93 i0 2 Try.underlying45 hi hz1 w.heap.size pre.length n _ rfl (O1.out.alloc _) ⟨W.heap.size, 0, none⟩ 1 1 [.int .i8 X, .int .i8 Y] rfl rfl (World.news_of_block (heap_at _ _ _ rfl)) (by simp [Value.oneCell']) (by omega) ?_; intro w3 hO3 hg3; have n1 := row_lt P.out; have n2 := row_lt LB.out; have hgs := hg3.size; replace P := Go.Lib.hid ((hg3.block D (by simp; omega) (by simp; omega)).trans (heap_past _ _ _ _ n1 P.out)); replace LB := Go.Lib.hid ((hg3.block lb (by simp; omega) (by simp; omega)).trans (heap_past _ _ _ _ n2 LB.out)); replace hB := Go.Lib.hid ((hB.out.alloc hB.out.size _).grown hg3 (by simp; have := hB.out.size; omega) (fun q hq => by cases hq; omega)); replace hCk := Go.Lib.hid ((hCk.out.step (World.grownBy_alloc W _ none) (fun j e => by cases e)).step hg3 (fun j e => by cases e; exact ⟨by omega, by omega, by omega⟩)); clear hg3)
      | (with_reducible refine wlOpB (.store 45 (.tmp 3) (.tmp 16)) rfl ?_; refine wpListIn_store1 rfl 45 (.tmp 3) (.tmp 16) rfl lb 0 rfl 1 (fun _ => (.slice (some ⟨w.heap.size, 0, none⟩) pre.length n)) (.slice (some ⟨w.heap.size, 0, none⟩) (pre.length + 1) n) rfl 45 size_sltB LB.out (by omega) rfl ?_; rw [vrow_over_all]; have hgr := grown_set (grown_refl w3 (some lb)) (vrow 1 fun _ => (.slice (some ⟨w.heap.size, 0, none⟩) (pre.length + 1) n)); replace P := Go.Lib.hid (row_set' (g := lb) (show D ≠ lb by omega) P.out (vrow 1 fun _ => (.slice (some ⟨w.heap.size, 0, none⟩) (pre.length + 1) n))); replace LB := Go.Lib.hid (row_set LB.out (vrow 1 fun _ => (.slice (some ⟨w.heap.size, 0, none⟩) (pre.length + 1) n))); have O3 := Go.Lib.hid (hO3.kept hgr (.inr (by simp [Value.ownBlock]; omega))); replace hCk := Go.Lib.hid (hCk.out.step hgr (fun j e => by cases e; exact ⟨by omega, by omega, by omega⟩)); replace hB := Go.Lib.hid (Below_setRow hB.out (show w.heap.size ≤ lb by omega) (vrow 1 fun _ => (.slice (some ⟨w.heap.size, 0, none⟩) (pre.length + 1) n))); clear hgr hO3))
    exact ⟨hCk.out.keep, hCk.out.kp, P.out, by rw [HEL.out]; exact LB.out, by rw [HEL.out, HAP.out]; exact O3.out, hB.out⟩
  case done =>
    rintro E W hD ⟨P, LB, O1, hB⟩ hd
    rw [List.length_range] at LB O1
    rw [bkV_range] at O1
    replace hd := Go.Lib.hid hd; replace hB := Go.Lib.hid hB; replace LB := Go.Lib.hid LB
    clear P c1 P0 LB0 O10 B0
    go_wp2_with (first
      | (with_reducible refine wlAt 17 rfl ?_; refine wpList_load1 rfl 45 (.tmp 3) rfl lb 0 rfl 1 (fun _ => (.slice (some ⟨w.heap.size, 0, none⟩) n n)) _ _ Try.underlying45 rfl LB.out (by omega) ?_))
    have hlt := row_lt hd.out
    refine leaveB rfl hd.out (results_tmp rfl _ _ _) ?_
    exact ⟨rfl, O1.kept (grownBy_putObj' W E _) (.inr (by simp [Value.ownBlock]; omega)), below_putB _ hB.out (by omega) hlt⟩
  case stop =>
    rintro E c pre W hD h hd
    exact h.elim
end Go.Proofs.Ytianedkknlggmaa
