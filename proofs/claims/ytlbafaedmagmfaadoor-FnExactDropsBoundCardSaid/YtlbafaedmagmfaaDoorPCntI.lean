import Derived.Deep.RegionHeld3
import Derived.Test.YtlbafaedmagmfaaDoorPCntS
import Derived.Test.YtlbafaedmagmfaaDoorPicV
import Derived.Test.YtlbafaedmagmfaaDoorDyeL
import Derived.Test.YtlbafaedmagmfaaDoorDyes
namespace Go.Proofs.YtlbafaedmagmfaaDoor
open Go.RowKit
set_option maxRecDepth 100000
set_option linter.unusedVariables false
set_option linter.unusedSimpArgs false
attribute [local go_sem] Oper.semAt_some
def cntF (p : Pic) (l : List Sp8) : Nat → Value := fun i => .int .i64 (cnt p i l)
theorem size_a5 : (Tryd.prog.info? 190).map (·.size) = some 5 := by kernel_rfl
theorem psize_i64 : (Tryd.prog.info? 2).map (·.size) = some 1 := by kernel_rfl
theorem prw_i64 : (Tryd.prog.underlying 2).map (·.isRow) = some false := by kernel_rfl
theorem zero_a5 : ∀ w, (zeroValue 190).run Tryd.prog w = .ok (.agg (vrow 5 fun _ => .int .i64 0)) w := fun _ => by kernel_rfl
theorem cntF_nil (p : Pic) : vrow 5 (fun _ => .int .i64 0) = vrow 5 (cntF p []) := vrow_ext _ _ _ fun i _ => by simp [cntF, cnt]
theorem cntF_step (p : Pic) (l : List Sp8) (q : Sp8) (n : Nat) (h : p.ink (8 * q.1.2 + q.1.1) = n) : vrow 5 (over (cntF p l) n 1 fun _ => .int .i64 ((cnt p n l : Int) + 1)) = vrow 5 (cntF p (l ++ [q])) := vrow_ext _ _ _ fun i _ => by
  unfold over cntF
  rw [cnt_app, h]
  by_cases e : i = n
  · subst e; rw [if_pos ⟨by omega, by omega⟩]; simp
  · rw [if_neg (by omega), if_neg (by simp; omega)]; simp
set_option maxRecDepth 100000 in
set_option maxHeartbeats 8000000 in
theorem counts_any (p : Pic) (a c : Nat) (w : World) (ha : p.wide = a) (hc : p.high = c) (ha8 : a ≤ 8) (hc8 : c ≤ 8) (hk : ∀ i, i < 64 → 0 ≤ p.ink i ∧ p.ink i ≤ 4) : Calls Tryd.prog 153 #[.agg p.row] w fun o w' => o = .returned (.agg (vrow 5 (cntF p (cellsL a c)))) ∧ Below w.heap.size w w' := by
  have zz := zero_a5
  have P : Hid ((((w.alloc (.cells (vrow 66 p.at) 72)).alloc (.cells (vrow 5 fun _ => .int .i64 0) 190)).alloc (.cells (vrow 5 fun _ => .int .i64 0) 190)).heap[w.heap.size]? = some (.cells (vrow 66 p.at) 72)) := heap_past _ _ _ _ (by simp <;> omega) (heap_past _ _ _ _ (by simp <;> omega) (heap_at _ _ _ (by simp)))
  have Z : Hid ((((w.alloc (.cells (vrow 66 p.at) 72)).alloc (.cells (vrow 5 fun _ => .int .i64 0) 190)).alloc (.cells (vrow 5 fun _ => .int .i64 0) 190)).heap[w.heap.size + 1]? = some (.cells (vrow 5 fun _ => .int .i64 0) 190)) := heap_past _ _ _ _ (by simp <;> omega) (heap_at _ _ _ (by simp))
  have D : Hid ((((w.alloc (.cells (vrow 66 p.at) 72)).alloc (.cells (vrow 5 fun _ => .int .i64 0) 190)).alloc (.cells (vrow 5 fun _ => .int .i64 0) 190)).heap[w.heap.size + 2]? = some (.cells (vrow 5 fun _ => .int .i64 0) 190)) := heap_at _ _ _ (by simp)
  have hB : Hid (Below w.heap.size w (((w.alloc (.cells (vrow 66 p.at) 72)).alloc (.cells (vrow 5 fun _ => .int .i64 0) 190)).alloc (.cells (vrow 5 fun _ => .int .i64 0) 190))) := ((((Below.refl w.heap.size w).alloc (by simp <;> omega) _).alloc (by simp <;> omega) _).alloc (by simp <;> omega) _)
  refine (callsIn_wide (n := 9)).1 ?_
  refine callsIn_of_wp_marks Tryd.func153 rfl trivial ?_ rfl
  simp only [Tryd.ntmps153, List.size_toArray, List.length_cons, List.length_nil, Nat.reduceAdd, Nat.reduceSub, Array.replicate_succ, Array.replicate_zero, List.push_toArray, List.append_toArray, List.nil_append, List.cons_append]
  refine wpIn_wide.2 ?_
  go_wp2_with (first
    | go_skip
    | ((with_reducible refine wlAt 6 rfl ?_); refine wpList_ld1 22 _ rfl (by first | exact want_n rfl | exact want_g _ _ _ rfl rfl rfl) (w.heap.size) _ rfl 66 p.at _ rw_i8 P.out (by omega) ?_; rw [Pic.at_0, ha]; simp only [Act.put, List.setIfInBounds_toArray, List.set_cons_succ, List.set_cons_zero])
    | ((with_reducible refine wlAt 8 rfl ?_); refine wpList_ld1 22 _ rfl (by first | exact want_n rfl | exact want_g _ _ _ rfl rfl rfl) (w.heap.size) _ rfl 66 p.at _ rw_i8 P.out (by omega) ?_; rw [Pic.at_1, hc]; simp only [Act.put, List.setIfInBounds_toArray, List.set_cons_succ, List.set_cons_zero])
    | (go_at_call 144; refine (cells_any _ _ _).mono ?_; rintro e w2 ⟨rfl, rfl⟩))
  have hws : (((w.alloc (.cells (vrow 66 p.at) 72)).alloc (.cells (vrow 5 fun _ => .int .i64 0) 190)).alloc (.cells (vrow 5 fun _ => .int .i64 0) 190)).heap.size = w.heap.size + 3 := by simp only [World.size_alloc]
  generalize hWn : (((w.alloc (.cells (vrow 66 p.at) 72)).alloc (.cells (vrow 5 fun _ => .int .i64 0) 190)).alloc (.cells (vrow 5 fun _ => .int .i64 0) 190)) = Wn at hB P Z D hws ⊢
  clear hWn
  have c1 := heap_at (Wn.alloc (.cells #[.int .i8 a] 22)) (.cells #[.int .i8 c] 22) (Wn.heap.size + 1) (by simp)
  have c2 := heap_past (Wn.alloc (.cells #[.int .i8 a] 22)) (.cells #[.int .i8 c] 22) _ Wn.heap.size (by simp) (heap_at Wn (.cells #[.int .i8 a] 22) _ rfl)
  have hB1 : Below Wn.heap.size Wn ((Wn.alloc (.cells #[.int .i8 a] 22)).alloc (.cells #[.int .i8 c] 22)) := ((Below.refl _ _).alloc (Nat.le_refl _) _).alloc (by simp) _
  obtain ⟨W0, hW0⟩ : ∃ W0, (Wn.alloc (.cells #[.int .i8 a] 22)).alloc (.cells #[.int .i8 c] 22) = W0 := ⟨_, rfl⟩
  rw [hW0] at c1 c2 hB1 ⊢
  clear hW0
  rw [hws] at c1 c2
  try simp only [hws]
  replace P := row_next hB1 P.out; replace Z := row_next hB1 Z.out; replace D := row_next hB1 D.out; replace hB := below_next hB.out hB1
  rw [cntF_nil p] at D
  have hs0 := row_lt c1
  refine wp_cells (d := 4) (w.heap.size + 3 + 1) (w.heap.size + 3) a c ha8 hc8 rfl c1 c2
    (fun pre W => W.heap[w.heap.size]? = some (.cells (vrow 66 p.at) 72) ∧ W.heap[w.heap.size + 1]? = some (.cells (vrow 5 fun _ => .int .i64 0) 190) ∧ W.heap[w.heap.size + 2]? = some (.cells (vrow 5 (cntF p pre)) 190) ∧ Below w.heap.size w W)
    (fun _ _ _ => False)
    (OwnFrom.and (own_row (by omega)) (OwnFrom.and (own_row (by omega)) (OwnFrom.and (own_rowD (o := fun pre => .cells (vrow 5 (cntF p pre)) 190) (by omega)) (ownFrom_below (Nat.le_refl _) (by omega)))))
    (fun c => own_pure _)
    ⟨P, Z, D, hB⟩ ?assign ?body ?done ?stop
  case assign =>
    intro l x W K hK
    simp only [List.setIfInBounds_toArray, List.set_cons_succ, List.set_cons_zero] at hK ⊢
    have zs := zero_spotP
    gi_wp2_with (refine wpListIn_storeall rfl 48 (.tmp 4) (.tmp 10) rfl _ rfl 2 (spAt 0 0) (spAt x.1.1 x.1.2) rfl 48 size_spot (heap_at _ _ _ rfl) (fun i _ => spAt_oneP _ _ i) ?_; rw [setRow_at _ _ _ _ _ rfl])
    exact hK
  case body =>
    rintro l pre ⟨⟨x, y⟩, hx, hy⟩ Wb W Bx hK hBx R hsz ⟨P, Z, D, hB⟩ hlen
    simp only [List.setIfInBounds_toArray, List.set_cons_succ, List.set_cons_zero] at R ⊢
    clear zz c1 c2 hB1
    have hpl : pre.length ≤ 64 := by
      have : a * c ≤ 8 * 8 := Nat.mul_le_mul (by omega) (by omega)
      omega
    replace hx : x < 8 := hx
    replace hy : y < 8 := hy
    obtain ⟨h1, h2⟩ := hk (8 * y + x) (by omega)
    have HS0 := fun w => shown_any p x y hx hy w
    obtain ⟨n, hn⟩ : ∃ n : Nat, p.ink (8 * y + x) = n := ⟨(p.ink (8 * y + x)).toNat, by omega⟩
    have hn5 : n < 5 := by omega
    have hst := cntF_step p pre ⟨(x, y), hx, hy⟩ n hn
    have hcl : cnt p n pre ≤ 64 := Nat.le_trans (cnt_le _ _ _) hpl
    rw [hn] at HS0
    have HS := Go.Lib.hid HS0
    have HST := Go.Lib.hid hst
    have hnI : (n : Int) < 5 := by omega
    clear hst HS0 hn h1 h2 hk
    replace R := Go.Lib.hid R; replace P := Go.Lib.hid P; replace Z := Go.Lib.hid Z; replace D := Go.Lib.hid D; replace hB := Go.Lib.hid hB; replace hK := Go.Lib.hid hK
    gi_wp2_with (first
      | (refine ⟨trivial, ?_⟩; gi_at_call 175; (refine (callsFW (ro := some _) (HS.out _)).mono ?_; rintro e w1 ⟨rfl, hb⟩; replace P := Go.Lib.hid (row_next hb P.out); replace R := Go.Lib.hid (row_next hb R.out); replace Z := Go.Lib.hid (row_next hb Z.out); replace D := Go.Lib.hid (row_next hb D.out); replace hB := Go.Lib.hid (below_next hB.out hb); replace hK := Go.Lib.hid (below_next hK.out hb); clear hb))
      | ((with_reducible refine wAtI 11 rfl ?_); refine ldmI 72 _ rfl (by first | exact want_n rfl | exact want_g _ _ _ rfl rfl rfl) (w.heap.size) _ rfl 66 66 p.at _ rw_pic size_pic P.out (by omega) ?_; rw [pic_row]; simp only [Act.put, List.setIfInBounds_toArray, List.set_cons_succ, List.set_cons_zero])
      | ((with_reducible refine wAtI 12 rfl ?_); refine ldmI 48 _ rfl (by first | exact want_n rfl | exact want_g _ _ _ rfl rfl rfl) Bx _ rfl 2 2 (spAt x y) _ rw_spot size_spot R.out (by omega) ?_; rw [sp_row]; simp only [Act.put, List.setIfInBounds_toArray, List.set_cons_succ, List.set_cons_zero])
      | ((with_reducible refine wAtI 15 rfl ?_); refine ld1I 2 _ rfl (by first | exact want_n rfl | exact want_g _ _ _ rfl rfl rfl) (w.heap.size + 2) _ rfl 5 (cntF p pre) _ prw_i64 D.out (by omega) ?_; (try rw [Nat.zero_add]); rw [show cntF p pre n = .int .i64 (cnt p n pre) from rfl]; simp only [Act.put, List.setIfInBounds_toArray, List.set_cons_succ, List.set_cons_zero])
      | ((with_reducible refine wOpI (.store 2 (.tmp 17) (.tmp 16)) rfl ?_); refine wpListIn_store1 rfl 2 (.tmp 17) (.tmp 16) rfl (w.heap.size + 2) n rfl 5 (cntF p pre) (.int .i64 ((cnt p n pre : Int) + 1)) rfl 190 psize_i64 D.out (by omega) rfl ?_; rw [HST.out]))
    exact ⟨(keeps_below hK.out).trans (keeps_setRow D.out _), (Kp2.of_lt hK.out (by omega) (by omega)).setRow (by omega) (by omega) _, row_set' (by omega) P.out _, row_set' (by omega) Z.out _, row_set D.out _, Below_setRow hB.out (by omega) _⟩
  case done =>
    rintro DD W hDD ⟨P, Z, D, hB⟩ hd
    replace Z := Go.Lib.hid Z; replace hd := Go.Lib.hid hd; replace hB := Go.Lib.hid hB; replace P := Go.Lib.hid P; replace D := Go.Lib.hid D
    go_wp2_with (first
      | (with_reducible refine wlAt 18 rfl ?_; refine wpList_loadall rfl 190 (.tmp 3) rfl _ rfl 5 (cntF p (cellsL a c)) 190 _ Tryd.underlying190 rfl size_a5 D.out ?_)
      | ((with_reducible refine wlOp (.store 190 (.tmp 2) (.tmp 18)) rfl ?_); refine wpList_storeall rfl 190 (.tmp 2) (.tmp 18) rfl (w.heap.size + 1) rfl 5 (fun _ => .int .i64 0) (cntF p (cellsL a c)) rfl 190 size_a5 Z.out (fun i _ => rfl) ?_))
    have hlt := row_lt hd.out
    have Z' := row_set Z.out (vrow 5 (cntF p (cellsL a c)))
    refine leaveM rfl ((setRow_other _ _ DD _ (by omega)).trans hd.out) (res_rowD Tryd.results153 _ _ (w.heap.size + 1) 5 (cntF p (cellsL a c)) 190 _ Tryd.underlying190 rfl size_a5 rfl (row_put Z' (by omega))) ?_
    exact ⟨rfl, below_put _ (Below_setRow hB.out (show w.heap.size ≤ w.heap.size + 1 by omega) _) (by omega) (by simp; omega)⟩
  case stop =>
    rintro D c pre W hD h hd
    exact h.elim
end Go.Proofs.YtlbafaedmagmfaaDoor
