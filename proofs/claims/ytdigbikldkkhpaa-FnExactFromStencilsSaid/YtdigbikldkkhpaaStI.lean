import Derived.Test.YtdigbikldkkhpaaStS
import Derived.Test.YtdigbikldkkhpaaQT
import Derived.Test.YtdigbikldkkhpaaG1
import Derived.Test.YtdigbikldkkhpaaBr
import Derived.Test.YtdigbikldkkhpaaBest
import Derived.Test.YtdigbikldkkhpaaImplV
import Derived.Test.YtdigbikldkkhpaaPicS
namespace Go.Proofs.Ytdigbikldkkhpaa
open Go.RowKit
set_option maxRecDepth 100000
set_option linter.unusedVariables false
set_option linter.unusedSimpArgs false
set_option maxHeartbeats 4000000 in
theorem cutOut_any (g : Nat → Int) (x y : Nat) (w : World) (hx : x < 8) (hy : y < 8) : Calls Try.prog 19 #[.agg (vrow 8 (s24 g)), .agg (vrow 2 (spAt x y))] w fun e w' => e = .returned (.bool (bits BinOp.and IntKind.u8 (g y / 2 ^ x) 1 == 1)) ∧ Below w.heap.size w w' := by
  have hxI : (x : Int) < 8 := by omega
  have hyI : (y : Int) < 8 := by omega
  have hx0 : (0 : Int) ≤ (x : Int) := by omega
  have hy0 : (0 : Int) ≤ (y : Int) := by omega
  have FK := Go.Lib.hid (s24_at g y)
  have G : Hid (((w.alloc (.cells (vrow 8 (s24 g)) 22)).alloc (.cells (vrow 2 (spAt x y)) 38)).heap[w.heap.size]? = some (.cells (vrow 8 (s24 g)) 22)) := (heap_past _ _ _ _ (by simp <;> omega) (heap_at _ _ _ (by simp)))
  have X : Hid (((w.alloc (.cells (vrow 8 (s24 g)) 22)).alloc (.cells (vrow 2 (spAt x y)) 38)).heap[w.heap.size + 1]? = some (.cells (vrow 2 (spAt x y)) 38)) := (heap_at _ _ _ (by simp))
  have hB : Hid (Below w.heap.size w ((w.alloc (.cells (vrow 8 (s24 g)) 22)).alloc (.cells (vrow 2 (spAt x y)) 38))) := Go.Lib.hid (((Below.refl w.heap.size w).alloc (by simp <;> omega) _).alloc (by simp <;> omega) _)
  go_enter Try.func19, Try.ntmps19
  go_wp2
  refine region_at (by kernel_rfl) (by kernel_rfl) ?_
  intro W hW
  rw [hW] at hB X G
  clear hW
  have X' := Go.Lib.hid (cls_row' X.out); have G' := Go.Lib.hid (cls_row' G.out)
  (repeat (first
    | go_big_quiet_skip
    | (refine wpQuiet_load1 24 _ rfl (by first | exact want_n rfl | exact want_g _ _ _ rfl rfl rfl) (w.heap.size + 1) _ rfl 2 (spAt x y) _ rw_i8 X'.out (by omega) ?_; (first | rw [spAt_0] | rw [spAt_1]); simp only [Act.put, List.setIfInBounds_toArray, List.set_cons_succ, List.set_cons_zero])
    | (refine wpQuiet_load1 5 _ rfl (by first | exact want_n rfl | exact want_g _ _ _ rfl rfl rfl) w.heap.size _ rfl 8 (s24 g) _ rw_u8S G'.out (by omega) ?_; (try simp only [Nat.zero_add, Nat.mul_one]); rw [FK.out]; simp only [Act.put, List.setIfInBounds_toArray, List.set_cons_succ, List.set_cons_zero])
    | go_big_quiet_step (fail)))
  refine wpQuiet_nil ?_
  intro W2 hb
  replace hB := Go.Lib.hid (below_next hB.out hb)
  clear hb X' G'
  go_wp2
  go_ret
  exact ⟨rfl, hB.out⟩
def dabG (g : Nat → Int) (v : Int) (p : Pic) (l : List (Nat × Nat)) : Pic := l.foldl (fun p q => if bits BinOp.and IntKind.u8 (g q.2 / 2 ^ q.1) 1 == 1 then p.setK (8 * q.2 + q.1) v else p) p
theorem dabG_K (st : Nat → Int) (k : Nat) (p : Pic) (l : List (Nat × Nat)) : dabG (fun y => st (8 * k + y)) ((k : Int) + 1) p l = dabK st k p l := rfl
theorem dabG_app (g : Nat → Int) (v : Int) (p : Pic) (l : List (Nat × Nat)) (q : Nat × Nat) : dabG g v p (l ++ [q]) = if bits BinOp.and IntKind.u8 (g q.2 / 2 ^ q.1) 1 == 1 then (dabG g v p l).setK (8 * q.2 + q.1) v else dabG g v p l := by simp [dabG, List.foldl_append]
theorem res_rowS {P : Program} {fn : Func} {p : Tmp} {ty : TypeId} (hr : fn.results = #[.cell p ty]) (tmps : Array Value) (w : World) (b : Nat) (n : Nat) (f : Nat → Value) (t : TypeId) (d : TypeDesc) (hu : P.underlying ty = some d) (hd : d.isRow = true) (hi : (P.info? ty).map (·.size) = some n)
    (hp : tmps.getD p undef = .pointer (some ⟨b, 0, none⟩)) (hg : w.heap[b]? = some (.cells (vrow n f) t)) : (results fn tmps).run P w = .ok (.agg (vrow n f)) w := by
  have hl := run_loadVar_row (P := P) w b t ty (vrow n f) (0, 0) d hg hu (by cases d <;> first | rfl | exact hd) (by rw [vrow_size]; exact hi)
  have hp1 : tmps[p]?.getD undef = .pointer (some ⟨b, 0, none⟩) := by simpa using hp
  simp [results, hr, hp1, asAddr, hl]
attribute [local go_sem] Oper.semAt_some
set_option maxRecDepth 100000 in
set_option maxHeartbeats 8000000 in
theorem dabbed_any (p : Pic) (g : Nat → Int) (v : Int) (a c : Nat) (w : World) (ha : p.wide = a) (hc : p.high = c) (ha8 : a ≤ 8) (hc8 : c ≤ 8) : Calls Try.prog 13 #[.agg p.row, .agg (vrow 8 (s24 g)), .int .u8 v] w fun o w' => o = .returned (.agg (dabG g v p (pairsL a c)).row) ∧ Below w.heap.size w w' := by
  have zz := zero_pic
  have hval : (cellsL a c).map (·.1) = pairsL a c := cellsL_val a c (by omega) c (by omega)
  have D : Hid (((((w.alloc (.cells (vrow 66 p.at) 27)).alloc (.cells (vrow 8 (s24 g)) 22)).alloc (.cells #[.int .u8 v] 5)).alloc (.cells (vrow 66 Pic.zero.at) 27)).heap[w.heap.size]? = some (.cells (vrow 66 p.at) 27)) := (heap_past _ _ _ _ (by simp <;> omega) (heap_past _ _ _ _ (by simp <;> omega) (heap_past _ _ _ _ (by simp <;> omega) (heap_at _ _ _ (by simp)))))
  have G : Hid (((((w.alloc (.cells (vrow 66 p.at) 27)).alloc (.cells (vrow 8 (s24 g)) 22)).alloc (.cells #[.int .u8 v] 5)).alloc (.cells (vrow 66 Pic.zero.at) 27)).heap[w.heap.size + 1]? = some (.cells (vrow 8 (s24 g)) 22)) := (heap_past _ _ _ _ (by simp <;> omega) (heap_past _ _ _ _ (by simp <;> omega) (heap_at _ _ _ (by simp))))
  have N : Hid (((((w.alloc (.cells (vrow 66 p.at) 27)).alloc (.cells (vrow 8 (s24 g)) 22)).alloc (.cells #[.int .u8 v] 5)).alloc (.cells (vrow 66 Pic.zero.at) 27)).heap[w.heap.size + 2]? = some (.cells #[.int .u8 v] 5)) := (heap_past _ _ _ _ (by simp <;> omega) (heap_at _ _ _ (by simp)))
  have Z : Hid (((((w.alloc (.cells (vrow 66 p.at) 27)).alloc (.cells (vrow 8 (s24 g)) 22)).alloc (.cells #[.int .u8 v] 5)).alloc (.cells (vrow 66 Pic.zero.at) 27)).heap[w.heap.size + 3]? = some (.cells (vrow 66 Pic.zero.at) 27)) := (heap_at _ _ _ (by simp))
  have hB : Hid (Below w.heap.size w ((((w.alloc (.cells (vrow 66 p.at) 27)).alloc (.cells (vrow 8 (s24 g)) 22)).alloc (.cells #[.int .u8 v] 5)).alloc (.cells (vrow 66 Pic.zero.at) 27))) := Go.Lib.hid (((((Below.refl w.heap.size w).alloc (by simp <;> omega) _).alloc (by simp <;> omega) _).alloc (by simp <;> omega) _).alloc (by simp <;> omega) _)
  replace N : Hid (((((w.alloc (.cells (vrow 66 p.at) 27)).alloc (.cells (vrow 8 (s24 g)) 22)).alloc (.cells #[.int .u8 v] 5)).alloc (.cells (vrow 66 Pic.zero.at) 27)).heap[w.heap.size + 2]? = some (.cells (vrow 1 fun _ => .int .u8 v) 5)) := N
  have Pw := Go.Lib.hid ha; have Ph := Go.Lib.hid hc
  clear ha hc
  refine (callsIn_wide (n := 9)).1 ?_
  refine callsIn_of_wp_marks Try.func13 rfl trivial ?_ rfl
  simp only [Try.ntmps13, List.size_toArray, List.length_cons, List.length_nil, Nat.reduceAdd, Nat.reduceSub, Array.replicate_succ, Array.replicate_zero, List.push_toArray, List.append_toArray, List.nil_append, List.cons_append]
  refine wpIn_wide.2 ?_
  go_wp2_with (first
    | go_skip
    | ((with_reducible refine wlAt 9 rfl ?_); refine wpList_ld1 24 _ rfl (by first | exact want_n rfl | exact want_g _ _ _ rfl rfl rfl) (w.heap.size) _ rfl 66 p.at _ rw_i8 D.out (by omega) ?_; rw [Pic.at_0, Pw.out])
    | ((with_reducible refine wlAt 11 rfl ?_); refine wpList_ld1 24 _ rfl (by first | exact want_n rfl | exact want_g _ _ _ rfl rfl rfl) (w.heap.size) _ rfl 66 p.at _ rw_i8 D.out (by omega) ?_; rw [Pic.at_1, Ph.out])
    | (go_at_call 17; refine (cells_any _ _ _).mono ?_; rintro e w2 ⟨rfl, rfl⟩))
  have hws : ((((w.alloc (.cells (vrow 66 p.at) 27)).alloc (.cells (vrow 8 (s24 g)) 22)).alloc (.cells #[.int .u8 v] 5)).alloc (.cells (vrow 66 Pic.zero.at) 27)).heap.size = w.heap.size + 4 := by simp only [World.size_alloc]
  generalize hWn : ((((w.alloc (.cells (vrow 66 p.at) 27)).alloc (.cells (vrow 8 (s24 g)) 22)).alloc (.cells #[.int .u8 v] 5)).alloc (.cells (vrow 66 Pic.zero.at) 27)) = Wn at hB G N Z D hws ⊢
  clear hWn
  have c1 := heap_at (Wn.alloc (.cells #[.int .i8 a] 24)) (.cells #[.int .i8 c] 24) (Wn.heap.size + 1) (by simp)
  have c2 := heap_past (Wn.alloc (.cells #[.int .i8 a] 24)) (.cells #[.int .i8 c] 24) _ Wn.heap.size (by simp) (heap_at Wn (.cells #[.int .i8 a] 24) _ rfl)
  have hB1 : Below Wn.heap.size Wn ((Wn.alloc (.cells #[.int .i8 a] 24)).alloc (.cells #[.int .i8 c] 24)) := ((Below.refl _ _).alloc (Nat.le_refl _) _).alloc (by simp) _
  obtain ⟨W0, hW0⟩ : ∃ W0, (Wn.alloc (.cells #[.int .i8 a] 24)).alloc (.cells #[.int .i8 c] 24) = W0 := ⟨_, rfl⟩
  rw [hW0] at c1 c2 hB1 ⊢
  clear hW0
  rw [hws] at c1 c2
  try simp only [hws]
  replace G := row_next hB1 G.out; replace N := row_next hB1 N.out; replace Z := row_next hB1 Z.out; replace D := row_next hB1 D.out; replace hB := below_next hB.out hB1
  have hs0 := row_lt c1
  refine wp_cells (d := 7) (w.heap.size + 4 + 1) (w.heap.size + 4) a c ha8 hc8 rfl c1 c2
    (fun pre W => W.heap[w.heap.size + 1]? = some (.cells (vrow 8 (s24 g)) 22) ∧ W.heap[w.heap.size + 2]? = some (.cells (vrow 1 fun _ => .int .u8 v) 5) ∧ W.heap[w.heap.size + 3]? = some (.cells (vrow 66 Pic.zero.at) 27) ∧ W.heap[w.heap.size]? = some (.cells (vrow 66 (dabG g v p (pre.map (·.1))).at) 27) ∧ Below w.heap.size w W)
    (fun _ _ _ => False)
    (OwnFrom.and (own_row (by omega)) (OwnFrom.and (own_row (by omega)) (OwnFrom.and (own_row (by omega)) (OwnFrom.and (own_rowD (o := fun pre : List Sp8 => .cells (vrow 66 (dabG g v p (pre.map (·.1))).at) 27) (by omega)) (ownFrom_below (Nat.le_refl _) (by omega))))))
    (fun c => own_pure _)
    ⟨G, N, Z, D, hB⟩ ?assign ?body ?done ?stop
  case assign =>
    intro l x W K hK
    simp only [List.setIfInBounds_toArray, List.set_cons_succ, List.set_cons_zero] at hK ⊢
    have zs := zero_spotP
    gi_wp2_with (refine wpListIn_storeall rfl 38 (.tmp 7) (.tmp 13) rfl _ rfl 2 (spAt 0 0) (spAt x.1.1 x.1.2) rfl 38 size_spot (heap_at _ _ _ rfl) (fun i _ => spAt_oneP _ _ i) ?_; rw [setRow_at _ _ _ _ _ rfl])
    exact hK
  case body =>
    rintro l pre ⟨⟨x, y⟩, hx, hy⟩ Wb W Bx hK hBx R hsz ⟨G, N, Z, D, hB⟩ hlen
    simp only [List.setIfInBounds_toArray, List.set_cons_succ, List.set_cons_zero] at R ⊢
    clear zz c1 c2 hB1
    replace hx : x < 8 := hx
    replace hy : y < 8 := hy
    have HS0 := fun w => cutOut_any g x y w hx hy
    have hst : dabG g v p ((pre ++ [(⟨(x, y), hx, hy⟩ : Sp8)]).map (·.1)) = if bits BinOp.and IntKind.u8 (g y / 2 ^ x) 1 == 1 then (dabG g v p (pre.map (·.1))).setK (8 * y + x) v else dabG g v p (pre.map (·.1)) := by rw [List.map_append]; exact dabG_app g v p _ (x, y)
    have HS := Go.Lib.hid HS0
    have HST := Go.Lib.hid hst
    clear hst HS0
    generalize dabG g v p (pre.map (·.1)) = M at *
    generalize hcut : (bits BinOp.and IntKind.u8 (g y / 2 ^ x) 1 == 1) = cu at HS HST
    clear hcut
    have hyI : (y : Int) < 8 := by omega
    have hxI : (x : Int) < 8 := by omega
    replace R := Go.Lib.hid R; replace G := Go.Lib.hid G; replace N := Go.Lib.hid N; replace Z := Go.Lib.hid Z; replace D := Go.Lib.hid D; replace hB := Go.Lib.hid hB; replace hK := Go.Lib.hid hK
    gi_wp2_with (first
      | (refine loadallIn rfl 22 (.tmp 4) rfl (w.heap.size + 1) rfl 8 (s24 g) 22 _ Try.underlying22 rfl size_x8 G.out ?_)
      | (refine loadallIn rfl 38 (.tmp 7) rfl Bx rfl 2 (spAt x y) 38 _ Try.underlying38 rfl size_spot R.out ?_))
    refine ⟨trivial, ?_⟩
    refine (callsFW (ro := some _) (HS.out _)).mono ?_
    rintro e w1 ⟨rfl, hb⟩
    replace R := Go.Lib.hid (row_next hb R.out); replace G := Go.Lib.hid (row_next hb G.out); replace N := Go.Lib.hid (row_next hb N.out); replace Z := Go.Lib.hid (row_next hb Z.out); replace D := Go.Lib.hid (row_next hb D.out); replace hB := Go.Lib.hid (below_next hB.out hb); replace hK := Go.Lib.hid (below_next hK.out hb)
    clear hb
    cases cu
    · have HS2 := Go.Lib.hid (show dabG g v p ((pre ++ [(⟨(x, y), hx, hy⟩ : Sp8)]).map (·.1)) = M by rw [HST.out]; rfl)
      gi_wp2
      exact ⟨keeps_below hK.out, Kp2.of_lt hK.out (by omega) (by omega), G.out, N.out, Z.out, by rw [HS2.out]; exact D.out, hB.out⟩
    · have HS2 := Go.Lib.hid (show dabG g v p ((pre ++ [(⟨(x, y), hx, hy⟩ : Sp8)]).map (·.1)) = M.setK (8 * y + x) v by rw [HST.out]; rfl)
      gi_wp2
      refine region_tailI 8 (by kernel_rfl) (by kernel_rfl) (by kernel_rfl) ?_
      simp only [List.take_succ_cons, List.take_zero, List.drop_succ_cons, List.drop_zero, World.drew_eq]
      repeat (first
        | (refine wpStill_load1 rfl 24 (.tmp 17) rfl Bx 1 rfl 2 (spAt x y) _ _ Try.underlying24 rfl R.out (by omega) ?_; rw [spAt_1]; simp only [Act.put, List.setIfInBounds_toArray, List.set_cons_succ, List.set_cons_zero])
        | (refine wpStill_load1 rfl 24 (.tmp 19) rfl Bx 0 rfl 2 (spAt x y) _ _ Try.underlying24 rfl R.out (by omega) ?_; rw [spAt_0]; simp only [Act.put, List.setIfInBounds_toArray, List.set_cons_succ, List.set_cons_zero])
        | (refine wpStill_load1 rfl 5 (.tmp 5) rfl (w.heap.size + 2) 0 rfl 1 (fun _ => .int .u8 v) _ _ Try.underlying5 rfl N.out (by omega) ?_; simp only [Act.put, List.setIfInBounds_toArray, List.set_cons_succ, List.set_cons_zero])
        | still_step
        | (refine wpStill_step (fun K hK => ?_); go_simp; simp only [hxI, hyI, if_true]; go_simp; refine hK _ ?_; clear hK K))
      refine wpStill_nil ?_
      refine wpList_store1 rfl 5 (.tmp 24) (.tmp 21) rfl w.heap.size (2 + y * 8 + x) rfl 66 M.at (.int .u8 v) rfl 27 size_u8S D.out (by omega) rfl ?_
      rw [show 2 + y * 8 + x = 2 + (8 * y + x) by omega, setK_at _ _ (by omega)]
      refine ⟨rfl, ?_⟩
      exact ⟨(keeps_below (hK.out.drew)).trans (keeps_setRow (W := w1.drew) D.out _), (Kp2.of_lt hK.out.drew (by omega) (by omega)).setRow (by omega) (by omega) _, row_set' (w := w1.drew) (by omega) G.out _, row_set' (w := w1.drew) (by omega) N.out _, row_set' (w := w1.drew) (by omega) Z.out _, by rw [HS2.out]; exact row_set (w := w1.drew) D.out _, Below_setRow hB.out.drew (by omega) _⟩
  case done =>
    rintro DD W hDD ⟨G, N, Z, D, hB⟩ hd
    replace Z := Go.Lib.hid Z; replace hd := Go.Lib.hid hd; replace hB := Go.Lib.hid hB; replace D := Go.Lib.hid D
    rw [hval] at D
    go_wp2_with (first
      | (with_reducible refine wlAt 25 rfl ?_; refine wpList_loadall rfl 27 (.tmp 3) rfl _ rfl 66 (dabG g v p (pairsL a c)).at 27 _ Try.underlying27 rfl size_pic D.out ?_)
      | ((with_reducible refine wlOp (.store 27 (.tmp 6) (.tmp 25)) rfl ?_); refine wpList_storeall rfl 27 (.tmp 6) (.tmp 25) rfl (w.heap.size + 3) rfl 66 Pic.zero.at (dabG g v p (pairsL a c)).at rfl 27 size_pic Z.out (fun i _ => Pic.one _ i) ?_))
    have hlt := row_lt hd.out
    have Z' := row_set Z.out (vrow 66 (dabG g v p (pairsL a c)).at)
    refine leaveM rfl ((setRow_other _ _ DD _ (by omega)).trans hd.out) (res_rowS Try.results13 _ _ (w.heap.size + 3) 66 (dabG g v p (pairsL a c)).at 27 _ Try.underlying27 rfl size_pic rfl (row_put Z' (by omega))) ?_
    exact ⟨rfl, below_put _ (Below_setRow hB.out (show w.heap.size ≤ w.heap.size + 3 by omega) _) (by omega) (by simp; omega)⟩
  case stop =>
    rintro D c pre W hD h hd
    exact h.elim
end Go.Proofs.Ytdigbikldkkhpaa
