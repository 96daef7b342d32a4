import Derived.Test.YthienbbecbakjaaDoorVF
import Derived.Test.YthienbbecbakjaaDoorLrun
namespace Go.Proofs.YthienbbecbakjaaDoor
open Go.RowKit
set_option maxRecDepth 100000
set_option linter.unusedVariables false
set_option linter.unusedSimpArgs false
theorem wlAtI (d : Nat) {F : Fence} {n : Nat} {P : Program} {ops : Array Oper} {Q : Exit → Act → World → Prop} {l : List Oper} {o : Oper} {a : Act} {w : World} (_ : o.dst = some d) (h : wpListIn F n P ops Q (o :: l) a w) : wpListIn F n P ops Q (o :: l) a w := h
theorem wlOpI (p : Op) {F : Fence} {n : Nat} {P : Program} {ops : Array Oper} {Q : Exit → Act → World → Prop} {l : List Oper} {o : Oper} {a : Act} {w : World} (_ : o.op = p) (h : wpListIn F n P ops Q (o :: l) a w) : wpListIn F n P ops Q (o :: l) a w := h
theorem wp_append_fits {P : Program} {w : World} {o : Oper} {a : Act} {K : Act → World → Prop} {Q : Exit → Act → World → Prop} (s x : Operand) (t : TypeId) (hop : o.op = Op.call { callee := Callee.builtin Builtin.append, args := #[s, x], argTypes := #[t, t] })
    (base : Nat) (e : TypeId) (i : TypeInfo) (size : Nat) (h1 : P.underlying t = some (.slice e)) (h2 : P.info? e = some i) (h4 : i.size = size)
    (g k cap : Nat) (xs : List Value) (hs : a.eval s = .slice (some ⟨g, 0, none⟩) k cap) (hown : w.ownsRow base e size (.slice (some ⟨g, 0, none⟩) k cap) k xs) (ad : Addr) (m c : Nat) (news : List Value) (hx : a.eval x = .slice (some ad) m c) (hn : news.length = m * size)
    (hc : ∀ j u, news[j]? = some u → w.cell? (ad.add j) = some u) (h1c : ∀ u ∈ news, u.oneCell' = true) (b1 : k + m ≤ cap)
    (hK : ∀ w', w'.ownsRow base e size (.slice (some ⟨g, 0, none⟩) (k + m) cap) (k + m) (xs ++ news) → w.grownBy w' (some g) → K (a.put o.dst (.slice (some ⟨g, 0, none⟩) (k + m) cap)) w') :
    o.wp P a w K Q := by
  obtain ⟨w', hrun, r1, r2⟩ := run_append_fits (P := P) w base t o.type e i size h1 h2 h4 g k cap xs hown ad m c news hn hc h1c b1
  unfold Oper.wp
  simp [execOp, hop, resolve, invoke, builtin, hs, hx, hrun, Result.andThen]
  exact hK _ r1 r2
structure Ck (N b1 b2 : Nat) (X Y : World) : Prop where
  keep : KeepsFrom N X Y
  kp : Kp2 b1 b2 X Y
  s1 : b1 < Y.heap.size
  s2 : b2 < Y.heap.size
theorem Ck.start {N b1 b2 : Nat} {X : World} (h1 : b1 < X.heap.size) (h2 : b2 < X.heap.size) : Ck N b1 b2 X X := ⟨KeepsFrom.refl _ _, ⟨rfl, rfl⟩, h1, h2⟩
theorem Ck.step {N b1 b2 : Nat} {X Y Z : World} (h : Ck N b1 b2 X Y) {row : Option Nat} (hg : Y.grownBy Z row) (hr : ∀ j, row = some j → j < N ∧ j ≠ b1 ∧ j ≠ b2) : Ck N b1 b2 X Z :=
  ⟨h.keep.trans (KeepsFrom.of_grownBy hg fun j e => (hr j e).1), ⟨(hg.block b1 h.s1 fun e => (hr b1 e.symm).2.1 rfl).trans h.kp.1, (hg.block b2 h.s2 fun e => (hr b2 e.symm).2.2 rfl).trans h.kp.2⟩, Nat.lt_of_lt_of_le h.s1 hg.size, Nat.lt_of_lt_of_le h.s2 hg.size⟩
theorem size_slt : (Tryd.prog.info? 34).map (·.size) = some 1 := by kernel_rfl
theorem size_pls : (Tryd.prog.info? 75).map (·.size) = some 1 := by kernel_rfl
theorem zero_slt : ∀ w, (zeroValue 34).run Tryd.prog w = .ok (.slice none 0 0) w := fun _ => by kernel_rfl
theorem zero_pls : ∀ w, (zeroValue 75).run Tryd.prog w = .ok (.slice none 0 0) w := fun _ => by kernel_rfl
attribute [local go_sem] Oper.semAt_some
set_option maxHeartbeats 8000000 in
theorem ground_any (s : Sh) (a c : Nat) (w : World) (ea : s.wide = a) (ec : s.high = c) (ha : a ≤ 8) (hc : c ≤ 8) (hok : okI s = true) :
    Calls Tryd.prog 39 #[.agg s.row] w fun e w' => ∃ gp gl, e = .returned (.slice (some ⟨gp, 0, none⟩) (dryL s (cellsL a c)).length 64) ∧ GroundM w' w.heap.size gp gl s (dryL s (cellsL a c)) ∧ Below w.heap.size w w' := by
  obtain ⟨i0, hi, hz0, hz1, hz2⟩ := info_parts info_spot
  obtain ⟨j0, hj, hy0, hy1, hy2⟩ := info_parts info_place
  have zs := zero_spot
  have z1 := zero_slt
  have z2 := zero_pls
  have hB : Hid (Below w.heap.size w (w.alloc (.cells (vrow 266 s.at) 37))) := ((Below.refl w.heap.size w).alloc (by simp <;> omega) _)
  have P : Hid ((w.alloc (.cells (vrow 266 s.at) 37)).heap[(w.heap.size)]? = some (.cells (vrow 266 s.at) 37)) := heap_at _ _ _ (by simp)
  refine (callsIn_wide (n := 9)).1 ?_
  refine callsIn_of_wp_marks Tryd.func39 rfl trivial ?_ rfl
  simp only [Tryd.ntmps39, List.size_toArray, List.length_cons, List.length_nil, Nat.reduceAdd, Nat.reduceSub, Array.replicate_succ, Array.replicate_zero, List.push_toArray, List.append_toArray, List.nil_append, List.cons_append]
  refine wpIn_wide.2 ?_
  go_wp2_with (first
    | go_skip
    | (with_reducible refine wlAt 7 rfl ?_; refine wpList_make_own _ rfl (.const (.int .i64 0)) (.const (.int .i64 256)) 34 rfl (w.heap.size) 61 i0 (.agg #[.int .i8 0, .int .i8 0]) 2 Tryd.underlying34 hi hz0 hz1 .i64 .i64 256 256 rfl rfl rfl (by rw [hz2]; decide) (by decide) (by simp) ?_; intro w1 hO1 hg1; simp only [Act.put, List.setIfInBounds_toArray, List.set_cons_succ, List.set_cons_zero]; have hg1s := hg1.size; replace P := Go.Lib.hid ((hg1.block _ (row_lt P.out) (by simp)).trans P.out); replace hB := Go.Lib.hid (hB.out.grown hg1 hB.out.size (fun q hq => by cases hq)); have hgl0 : Hid ((w.alloc (.cells (vrow 266 s.at) 37)).heap.size = w.heap.size + 1) := World.heap_size_alloc_hid _ _; generalize (w.alloc (.cells (vrow 266 s.at) 37)).heap.size = gl at hO1 hgl0 hg1s ⊢; have hgl1 : gl < w1.heap.size := (hO1.lt gl rfl).2; clear hg1 hg1s)
    | (with_reducible refine wlOp (.store 34 (.tmp 3) (.tmp 7)) rfl ?_; refine wpList_store1 rfl 34 (.tmp 3) (.tmp 7) rfl (w1.heap.size) 0 rfl 1 (fun _ => .slice none 0 0) (.slice (some ⟨gl, 0, none⟩) 0 256) rfl 34 size_slt (heap_at _ _ _ rfl) (by omega) rfl ?_; rw [vrow_over_all, setRow_at _ _ _ _ _ rfl]; have LB := Go.Lib.hid (heap_at w1 (.cells (vrow 1 fun _ => .slice (some ⟨gl, 0, none⟩) 0 256) 34) _ rfl); have nP := row_lt P.out; replace P := Go.Lib.hid (heap_past _ (.cells (vrow 1 fun _ => .slice (some ⟨gl, 0, none⟩) 0 256) 34) _ _ nP P.out); have O1 := Go.Lib.hid (hO1.alloc (.cells (vrow 1 fun _ => .slice (some ⟨gl, 0, none⟩) 0 256) 34)); have hbs := hB.out.size; replace hB := Go.Lib.hid (hB.out.alloc hbs (.cells (vrow 1 fun _ => .slice (some ⟨gl, 0, none⟩) 0 256) 34)); have hsz2 : Hid ((w1.alloc (.cells (vrow 1 fun _ => .slice (some ⟨gl, 0, none⟩) 0 256) 34)).heap.size = w1.heap.size + 1) := World.heap_size_alloc_hid _ _; generalize w1.heap.size = lb at LB nP hbs hgl1 hsz2 ⊢; generalize w1.alloc _ = w2 at P LB O1 hB hsz2 ⊢; clear hO1)
    | (with_reducible refine wlAt 8 rfl ?_; refine wpList_make_own _ rfl (.const (.int .i64 0)) (.const (.int .i64 64)) 75 rfl (w.heap.size) 91 j0 (.agg #[.int .i8 0, .int .i8 0, .slice none 0 0]) 3 Tryd.underlying75 hj hy0 hy1 .i64 .i64 64 64 rfl rfl rfl (by rw [hy2]; decide) (by decide) (by have := hsz2.out; omega) ?_; intro w3 hO2 hg2; simp only [Act.put, List.setIfInBounds_toArray, List.set_cons_succ, List.set_cons_zero]; have hg2s := hg2.size; replace P := Go.Lib.hid ((hg2.block _ (row_lt P.out) (by simp)).trans P.out); replace LB := Go.Lib.hid ((hg2.block _ (row_lt LB.out) (by simp)).trans LB.out); replace O1 := Go.Lib.hid (O1.out.kept hg2 (by simp [Value.ownBlock])); replace hB := Go.Lib.hid (hB.out.grown hg2 hB.out.size (fun q hq => by cases hq)); generalize w2.heap.size = gp at hO2 hsz2 hg2s ⊢; have hgp1 : gp < w3.heap.size := (hO2.lt gp rfl).2; clear hg2 hg2s)
    | (with_reducible refine wlOp (.store 75 (.tmp 4) (.tmp 8)) rfl ?_; refine wpList_store1 rfl 75 (.tmp 4) (.tmp 8) rfl (w3.heap.size) 0 rfl 1 (fun _ => .slice none 0 0) (.slice (some ⟨gp, 0, none⟩) 0 64) rfl 75 size_pls (heap_at _ _ _ rfl) (by omega) rfl ?_; rw [vrow_over_all, setRow_at _ _ _ _ _ rfl]; have PB := Go.Lib.hid (heap_at w3 (.cells (vrow 1 fun _ => .slice (some ⟨gp, 0, none⟩) 0 64) 75) _ rfl); have nP2 := row_lt P.out; have nL2 := row_lt LB.out; replace P := Go.Lib.hid (heap_past _ (.cells (vrow 1 fun _ => .slice (some ⟨gp, 0, none⟩) 0 64) 75) _ _ nP2 P.out); replace LB := Go.Lib.hid (heap_past _ (.cells (vrow 1 fun _ => .slice (some ⟨gp, 0, none⟩) 0 64) 75) _ _ nL2 LB.out); replace O1 := Go.Lib.hid (O1.out.alloc (.cells (vrow 1 fun _ => .slice (some ⟨gp, 0, none⟩) 0 64) 75)); have O2 := Go.Lib.hid (hO2.alloc (.cells (vrow 1 fun _ => .slice (some ⟨gp, 0, none⟩) 0 64) 75)); have hbs2 := hB.out.size; replace hB := Go.Lib.hid (hB.out.alloc hbs2 (.cells (vrow 1 fun _ => .slice (some ⟨gp, 0, none⟩) 0 64) 75)); have hsz3 : Hid ((w3.alloc (.cells (vrow 1 fun _ => .slice (some ⟨gp, 0, none⟩) 0 64) 75)).heap.size = w3.heap.size + 1) := World.heap_size_alloc_hid _ _; generalize w3.heap.size = pb at PB nP2 nL2 hbs2 hgp1 hsz3 ⊢; generalize w3.alloc _ = w4 at P LB PB O1 O2 hB hsz3 ⊢; clear hO2)
    | (with_reducible refine wlAt 10 rfl ?_; refine wpList_load1 rfl 22 (.tmp 9) rfl (w.heap.size) 0 rfl 266 s.at _ _ Tryd.underlying22 rfl P.out (by omega) ?_; rw [Sh.at_0, ea])
    | (with_reducible refine wlAt 12 rfl ?_; refine wpList_load1 rfl 22 (.tmp 11) rfl (w.heap.size) 1 rfl 266 s.at _ _ Tryd.underlying22 rfl P.out (by omega) ?_; rw [Sh.at_1, ec])
    | (go_at_call 61; refine (cells_any _ _ _).mono ?_; rintro e w5 ⟨rfl, rfl⟩))
  replace hsz3 := hsz3.out
  have q1 : w.heap.size < gl := by have := hgl0.out; omega
  have q2 : lb < gp := by have := hsz2.out; omega
  clear hgl0 hsz2
  have c1 := heap_at (w4.alloc (.cells #[.int .i8 a] 22)) (.cells #[.int .i8 c] 22) (w4.heap.size + 1) (by simp)
  have c2 := heap_past (w4.alloc (.cells #[.int .i8 a] 22)) (.cells #[.int .i8 c] 22) _ w4.heap.size (by simp) (heap_at w4 (.cells #[.int .i8 a] 22) _ rfl)
  have hB1 : Below w4.heap.size w4 ((w4.alloc (.cells #[.int .i8 a] 22)).alloc (.cells #[.int .i8 c] 22)) := ((Below.refl _ _).alloc (Nat.le_refl _) _).alloc (by simp) _
  have O1' := (O1.out.alloc (.cells #[.int .i8 a] 22)).alloc (.cells #[.int .i8 c] 22)
  have O2' := (O2.out.alloc (.cells #[.int .i8 a] 22)).alloc (.cells #[.int .i8 c] 22)
  have hs0 : ((w4.alloc (.cells #[.int .i8 a] 22)).alloc (.cells #[.int .i8 c] 22)).heap.size = pb + 3 := by simp; omega
  obtain ⟨W0, hW0⟩ : ∃ W0, (w4.alloc (.cells #[.int .i8 a] 22)).alloc (.cells #[.int .i8 c] 22) = W0 := ⟨_, rfl⟩
  rw [hW0] at c1 c2 hB1 O1' O2' hs0 ⊢
  clear hW0
  rw [hsz3] at c1 c2
  try simp only [hsz3]
  replace P := row_next hB1 P.out; replace LB := row_next hB1 LB.out; replace PB := row_next hB1 PB.out; replace hB := below_next hB.out hB1
  clear hB1 O1 O2 hsz3
  have HMk := Go.Lib.hid fun (x y k : Nat) h => mk_next (s := s) (x := x) (y := y) (k := k) hok h
  have HOK := Go.Lib.hid hok
  have HHS := Go.Lib.hid fun p q h => ok_has s hok p q h
  refine wp_cellsN (d := 5) (pb + 1 + 1) (pb + 1) a c ha hc rfl c1 c2
    (fun pre W => W.heap[w.heap.size]? = some (.cells (vrow 266 s.at) 37) ∧ W.heap[lb]? = some (.cells (vrow 1 fun _ => .slice (some ⟨gl, 0, none⟩) (nbAll s (dryL s (pre.map toSp))).length 256) 34) ∧ W.heap[pb]? = some (.cells (vrow 1 fun _ => .slice (some ⟨gp, 0, none⟩) (dryL s (pre.map toSp)).length 64) 75) ∧ W.ownsRow w.heap.size 61 2 (.slice (some ⟨gl, 0, none⟩) (nbAll s (dryL s (pre.map toSp))).length 256) (nbAll s (dryL s (pre.map toSp))).length (vals (nbAll s (dryL s (pre.map toSp)))) ∧ W.ownsRow w.heap.size 91 3 (.slice (some ⟨gp, 0, none⟩) (dryL s (pre.map toSp)).length 64) (dryL s (pre.map toSp)).length (pvals s gl 0 (dryL s (pre.map toSp))) ∧ Below w.heap.size w W)
    (fun _ _ _ => False)
    (OwnFrom.and (own_row (by omega)) (OwnFrom.and (own_rowD (o := fun pre : List (SpN a c) => .cells (vrow 1 fun _ => .slice (some ⟨gl, 0, none⟩) (nbAll s (dryL s (pre.map toSp))).length 256) 34) (by omega)) (OwnFrom.and (own_rowD (o := fun pre : List (SpN a c) => .cells (vrow 1 fun _ => .slice (some ⟨gp, 0, none⟩) (dryL s (pre.map toSp)).length 64) 75) (by omega)) (OwnFrom.and (own_ownsRow _ _ _) (OwnFrom.and (own_ownsRow _ _ _) (ownFrom_below (Nat.le_refl _) (by omega)))))))
    (fun c => own_pure _)
    ⟨P, LB, PB, O1', O2', hB⟩ ?assign ?body ?done ?stop
  case assign =>
    intro l x W K hK
    simp only [List.setIfInBounds_toArray, List.set_cons_succ, List.set_cons_zero] at hK ⊢
    gi_wp2_with (refine wpListIn_storeall rfl 61 (.tmp 5) (.tmp 14) rfl _ rfl 2 (spAt 0 0) (spAt x.1.1 x.1.2) rfl 61 size_spot (heap_at _ _ _ rfl) (fun i _ => spAt_one _ _ i) ?_; rw [setRow_at _ _ _ _ _ rfl])
    exact hK
  case body =>
    rintro l pre ⟨⟨x, y⟩, hx, hy⟩ Wb W Bx hK hBx R hsz ⟨P, LB, PB, O1, O2, hB⟩ hlen
    simp only [List.setIfInBounds_toArray, List.set_cons_succ, List.set_cons_zero] at R ⊢
    replace hx : x < a := hx
    replace hy : y < c := hy
    have hx8 : x < 8 := by omega
    have hy8 : y < 8 := by omega
    have hts : toSp (⟨(x, y), hx, hy⟩ : SpN a c) = ⟨(x, y), hx8, hy8⟩ := Subtype.ext (toSp_val ha hc _)
    have hap : dryL s ((pre ++ [(⟨(x, y), hx, hy⟩ : SpN a c)]).map toSp) = dryL s (pre.map toSp) ++ (if waxB s x y then [] else [⟨(x, y), hx8, hy8⟩]) := by
      rw [List.map_append, List.map_cons, List.map_nil, dryL_app, hts]
    have hle : (dryL s (pre.map toSp)).length ≤ pre.length := by
      have := dryL_len s (pre.map toSp); rw [List.length_map] at this; exact this
    have hac : a * c ≤ 64 := Nat.mul_le_mul ha hc
    have hn4 := nbAll_len s (dryL s (pre.map toSp))
    clear hts
    generalize dryL s (pre.map toSp) = L at *
    have HW0 := fun w => waxed_any s x y hx8 hy8 w
    rw [sp_vrow] at HW0
    have hrl := row_lt R
    have hszB := hK.size
    have hCk := Go.Lib.hid ((Ck.start (N := W0.heap.size) (b1 := pb + 1 + 1) (b2 := pb + 1) (X := Wb) (by omega) (by omega)).step (grown_next (grown_refl Wb none) hK) (fun j e => by cases e))
    replace R := Go.Lib.hid R; replace P := Go.Lib.hid P; replace LB := Go.Lib.hid LB; replace PB := Go.Lib.hid PB; replace O1 := Go.Lib.hid O1; replace O2 := Go.Lib.hid O2; replace hB := Go.Lib.hid hB
    obtain ⟨Wc, hWc⟩ : ∃ Wc : World, Wc = W := ⟨_, rfl⟩
    rw [← hWc] at R P LB PB O1 O2 hB hCk hrl ⊢
    clear hWc hK
    cases hw : waxB s x y
    · rw [hw] at HW0
      have hap1 := hap
      rw [hw, if_neg (by simp)] at hap1
      have HW := Go.Lib.hid HW0
      have HAP := Go.Lib.hid hap1
      clear HW0 hap hap1
      have HNB := Go.Lib.hid fun w0 hO => nbr_fits s x y w0 hx8 hy8 HOK.out w.heap.size gl 256 (nbAll s L).length (vals (nbAll s L)) hO (by omega)
      gi_wp2_with (first
        | (with_reducible refine wlAtI 15 rfl ?_; refine loadallIn rfl 37 (.tmp 1) rfl (w.heap.size) rfl 266 s.at 37 _ Tryd.underlying37 rfl size_sheet P.out ?_)
        | (with_reducible refine wlAtI 16 rfl ?_; refine loadallIn rfl 61 (.tmp 5) rfl Bx rfl 2 (spAt x y) 61 _ Tryd.underlying61 rfl size_spot R.out ?_)
        | (with_reducible refine wlAtI 18 rfl ?_; refine loadoneIn rfl 34 (.tmp 3) rfl lb 0 rfl 1 (fun _ => (.slice (some ⟨gl, 0, none⟩) (nbAll s L).length 256)) 34 _ Tryd.underlying34 rfl LB.out (by omega) ?_)
        | (with_reducible refine wlAtI 20 rfl ?_; refine loadallIn rfl 37 (.tmp 1) rfl (w.heap.size) rfl 266 s.at 37 _ Tryd.underlying37 rfl size_sheet P.out ?_)
        | (with_reducible refine wlAtI 21 rfl ?_; refine loadoneIn rfl 34 (.tmp 3) rfl lb 0 rfl 1 (fun _ => (.slice (some ⟨gl, 0, none⟩) (nbAll s L).length 256)) 34 _ Tryd.underlying34 rfl LB.out (by omega) ?_)
        | (with_reducible refine wlAtI 22 rfl ?_; refine loadallIn rfl 61 (.tmp 5) rfl Bx rfl 2 (spAt x y) 61 _ Tryd.underlying61 rfl size_spot R.out ?_)
        | (with_reducible refine wlOpI (.store 34 (.tmp 3) (.tmp 23)) rfl ?_; refine wpListIn_store1 rfl 34 (.tmp 3) (.tmp 23) rfl lb 0 rfl 1 (fun _ => (.slice (some ⟨gl, 0, none⟩) (nbAll s L).length 256)) (.slice (some ⟨gl, 0, none⟩) ((nbAll s L).length + (nbs s x y 4).length) 256) rfl 34 size_slt LB.out (by omega) rfl ?_; rw [vrow_over_all]; have hgr := grown_set (grown_refl w2 (some lb)) (vrow 1 fun _ => (.slice (some ⟨gl, 0, none⟩) ((nbAll s L).length + (nbs s x y 4).length) 256)); replace R := Go.Lib.hid (row_set' (g := lb) (show Bx ≠ lb by omega) R.out (vrow 1 fun _ => (.slice (some ⟨gl, 0, none⟩) ((nbAll s L).length + (nbs s x y 4).length) 256))); replace P := Go.Lib.hid (row_set' (g := lb) (show w.heap.size ≠ lb by omega) P.out (vrow 1 fun _ => (.slice (some ⟨gl, 0, none⟩) ((nbAll s L).length + (nbs s x y 4).length) 256))); replace PB := Go.Lib.hid (row_set' (g := lb) (show pb ≠ lb by omega) PB.out (vrow 1 fun _ => (.slice (some ⟨gl, 0, none⟩) ((nbAll s L).length + (nbs s x y 4).length) 256))); replace LB := Go.Lib.hid (row_set LB.out (vrow 1 fun _ => (.slice (some ⟨gl, 0, none⟩) ((nbAll s L).length + (nbs s x y 4).length) 256))); replace O1 := Go.Lib.hid (O1.out.kept hgr (.inr (by simp [Value.ownBlock]; omega))); replace O2 := Go.Lib.hid (O2.out.kept hgr (.inr (by simp [Value.ownBlock]; omega))); replace hCk := Go.Lib.hid (hCk.out.step hgr (fun j e => by cases e; exact ⟨by omega, by omega, by omega⟩)); replace hB := Go.Lib.hid (Below_setRow hB.out (show w.heap.size ≤ lb by omega) (vrow 1 fun _ => (.slice (some ⟨gl, 0, none⟩) ((nbAll s L).length + (nbs s x y 4).length) 256))); clear hgr; generalize World.setRow w2 _ _ = w3 at R P PB LB O1 O2 hCk hB ⊢)
        | (refine ⟨trivial, ?_⟩; (gi_at_call 62; refine (callsFW (ro := some _) (HW.out _)).mono ?_; rintro e w1 ⟨rfl, hb⟩; have hgn := grown_next (grown_refl Wc none) hb; replace R := Go.Lib.hid (row_next hb R.out); replace P := Go.Lib.hid (row_next hb P.out); replace LB := Go.Lib.hid (row_next hb LB.out); replace PB := Go.Lib.hid (row_next hb PB.out); replace O1 := Go.Lib.hid (O1.out.kept hgn (by cases hv : Value.ownBlock _ <;> simp)); replace O2 := Go.Lib.hid (O2.out.kept hgn (by cases hv : Value.ownBlock _ <;> simp)); replace hCk := Go.Lib.hid (hCk.out.step hgn (fun j e => by cases e)); replace hB := Go.Lib.hid (below_next hB.out hb); have hrl2 := hb.size; clear hb hgn))
        | (refine ⟨trivial, ?_⟩; gi_at_call 63; refine (callsFW (ro := some _) (HNB.out _ O1.out)).mono ?_; rintro e w2 ⟨rfl, hO1n, hgn⟩; have mR := row_lt R.out; have mP := row_lt P.out; have mL := row_lt LB.out; have mB := row_lt PB.out; have hgs := hgn.size; replace R := Go.Lib.hid ((hgn.block _ mR (by simp; omega)).trans R.out); replace P := Go.Lib.hid ((hgn.block _ mP (by simp; omega)).trans P.out); replace LB := Go.Lib.hid ((hgn.block _ mL (by simp; omega)).trans LB.out); replace PB := Go.Lib.hid ((hgn.block _ mB (by simp; omega)).trans PB.out); replace O2 := Go.Lib.hid (O2.out.kept hgn (.inr (by simp [Value.ownBlock]; omega))); replace O1 := Go.Lib.hid hO1n; replace hCk := Go.Lib.hid (hCk.out.step hgn (fun j e => by cases e; exact ⟨by omega, by omega, by omega⟩)); replace hB := Go.Lib.hid (hB.out.grown hgn (by have := hB.out.size; omega) (fun q hq => by cases hq; omega)); clear hgn hO1n))
      have hM4 := nbs_len s x y 4
      obtain ⟨m, hm⟩ : ∃ m, (nbAll s L).length = m := ⟨_, rfl⟩
      obtain ⟨k0, hk0⟩ : ∃ k0, (nbs s x y 4).length = k0 := ⟨_, rfl⟩
      rw [hm] at LB O1 hn4 ⊢
      rw [hk0] at LB O1 hM4
      have HM := Go.Lib.hid hm; have HK := Go.Lib.hid hk0
      clear hm hk0
      refine region_heldI (S := fun W' => Below w.heap.size w W' ∧ W'.heap[w.heap.size]? = some (.cells (vrow 266 s.at) 37) ∧ W'.heap[lb]? = some (.cells (vrow 1 fun _ => (.slice (some ⟨gl, 0, none⟩) (m + k0) 256)) 34) ∧ W'.heap[Bx]? = some (.cells (vrow 2 (spAt x y)) 61) ∧ W'.ownsRow w.heap.size 61 2 (.slice (some ⟨gl, 0, none⟩) (m + k0) 256) (m + k0) (vals (nbAll s L) ++ vals (nbs s x y 4))) (by kernel_rfl) (by kernel_rfl) ⟨hB.out.drew, P.out, LB.out, R.out, O1.out⟩ (fun hH => ?_)
      have PB2 := drew_row PB.out
      have O22 := World.ownsRow.drew O2.out
      have hCk2 := hCk.out.step (grown_drew (grown_refl w3 none)) (fun j e => by cases e)
      clear hB P LB R O1 PB O2 hCk
      generalize World.drew _ = Wd at hH PB2 O22 hCk2 ⊢
      refine wpAnyH_take (i := 1) (v := (.agg #[.int .i8 x, .int .i8 y])) rfl (by kernel_rfl) (by kernel_rfl) (by kernel_rfl) (fun _ _ _ h => by cases h.1) (yields_mid (by kernel_rfl) 61 _ rfl Bx 0 (by kernel_rfl) 2 2 (spAt x y) _ (by omega) 61 _ Tryd.underlying61 rfl size_spot (sp_row x y) (fun _ h => h.2.2.2.1)) hH ?_
      (try simp only [List.getElem_toArray, List.getElem_cons_succ, List.getElem_cons_zero, Act.put, List.setIfInBounds_toArray, List.set_cons_succ, List.set_cons_zero])
      refine wpAnyH_take (i := 2) (v := (.slice (some ⟨gl, 0, none⟩) (m + k0) 256)) rfl (by kernel_rfl) (by kernel_rfl) (by kernel_rfl) (fun _ _ _ h => by cases h.1) (yields_one (by kernel_rfl) 34 _ rfl lb 0 (by kernel_rfl) 1 (fun _ => (.slice (some ⟨gl, 0, none⟩) (m + k0) 256)) 34 _ Tryd.underlying34 rfl (by omega) (fun _ h => h.2.2.1)) hH ?_
      (try simp only [List.getElem_toArray, List.getElem_cons_succ, List.getElem_cons_zero, Act.put, List.setIfInBounds_toArray, List.set_cons_succ, List.set_cons_zero])
      refine wpAnyH_take (i := 3) (v := (.int .i64 m)) rfl (by kernel_rfl) (by kernel_rfl) (by kernel_rfl) (fun _ _ _ h => by cases h.1) (.inl ⟨by kernel_rfl, fun w _ => by go_simp⟩) hH ?_
      (try simp only [List.getElem_toArray, List.getElem_cons_succ, List.getElem_cons_zero, Act.put, List.setIfInBounds_toArray, List.set_cons_succ, List.set_cons_zero])
      refine wpAnyH_take (i := 4) (v := (.slice (some ⟨gl, 0, none⟩) (m + k0) 256)) rfl (by kernel_rfl) (by kernel_rfl) (by kernel_rfl) (fun _ _ _ h => by cases h.1) (yields_one (by kernel_rfl) 34 _ rfl lb 0 (by kernel_rfl) 1 (fun _ => (.slice (some ⟨gl, 0, none⟩) (m + k0) 256)) 34 _ Tryd.underlying34 rfl (by omega) (fun _ h => h.2.2.1)) hH ?_
      (try simp only [List.getElem_toArray, List.getElem_cons_succ, List.getElem_cons_zero, Act.put, List.setIfInBounds_toArray, List.set_cons_succ, List.set_cons_zero])
      refine wpAnyH_take (i := 5) (v := (.int .i64 (m + k0 : Nat))) rfl (by kernel_rfl) (by kernel_rfl) (by kernel_rfl) (fun _ _ _ h => by cases h.1) (.inl ⟨by kernel_rfl, fun w _ => by go_simp⟩) hH ?_
      (try simp only [List.getElem_toArray, List.getElem_cons_succ, List.getElem_cons_zero, Act.put, List.setIfInBounds_toArray, List.set_cons_succ, List.set_cons_zero])
      refine wpAnyH_take (i := 6) (v := (.slice (some ⟨gl, 0, none⟩) (m + k0) 256)) rfl (by kernel_rfl) (by kernel_rfl) (by kernel_rfl) (fun _ _ _ h => by cases h.1) (yields_one (by kernel_rfl) 34 _ rfl lb 0 (by kernel_rfl) 1 (fun _ => (.slice (some ⟨gl, 0, none⟩) (m + k0) 256)) 34 _ Tryd.underlying34 rfl (by omega) (fun _ h => h.2.2.1)) hH ?_
      (try simp only [List.getElem_toArray, List.getElem_cons_succ, List.getElem_cons_zero, Act.put, List.setIfInBounds_toArray, List.set_cons_succ, List.set_cons_zero])
      refine wpAnyH_take (i := 7) (v := (.int .i64 (m + k0 : Nat))) rfl (by kernel_rfl) (by kernel_rfl) (by kernel_rfl) (fun _ _ _ h => by cases h.1) (.inl ⟨by kernel_rfl, fun w _ => by go_simp⟩) hH ?_
      (try simp only [List.getElem_toArray, List.getElem_cons_succ, List.getElem_cons_zero, Act.put, List.setIfInBounds_toArray, List.set_cons_succ, List.set_cons_zero])
      -- TAIL
      refine wpAnyH_take (i := 8) (v := (besV gl m (m + k0))) rfl (by kernel_rfl) (by kernel_rfl) (by kernel_rfl) (fun _ _ _ h => by cases h.1) (.inl ⟨by kernel_rfl, fun w _ => by go_simp; rw [if_pos ⟨by omega, by omega⟩, if_pos ⟨by omega, by omega⟩, if_pos (by omega)]; rw [show ((m : Int) + (k0 : Int)).toNat = m + k0 by omega]; rfl⟩) hH ?_
      (try simp only [List.getElem_toArray, List.getElem_cons_succ, List.getElem_cons_zero, Act.put, List.setIfInBounds_toArray, List.set_cons_succ, List.set_cons_zero])
      refine wpAnyH_take (i := 9) (v := (.agg #[.int .i8 x, .int .i8 y, besV gl m (m + k0)])) rfl (by kernel_rfl) (by kernel_rfl) (by kernel_rfl) (fun _ _ _ h => by cases h.1) (.inl ⟨by kernel_rfl, fun w _ => by go_simp; rfl⟩) hH ?_
      (try simp only [List.getElem_toArray, List.getElem_cons_succ, List.getElem_cons_zero, Act.put, List.setIfInBounds_toArray, List.set_cons_succ, List.set_cons_zero])
      refine wpAnyH_ready (rs := [0, 10]) (by kernel_rfl) (by simp) (AllReadyH.cons rfl (fun K hK => ?_) (AllReadyH.cons rfl (fun K hK => ?_) AllReadyH.nil))
      · rw [if_pos (by kernel_rfl)]
        unfold Oper.wp
        rw [run_ld1 75 (.tmp 4) rfl pb 0 (by kernel_rfl) 1 (fun _ => (.slice (some ⟨gp, 0, none⟩) L.length 64)) 75 _ Tryd.underlying75 rfl PB2 (by omega)]
        refine hK.out _ _ hH (fun hH => ?_)
        clear hK K
        (try simp only [List.getElem_toArray, List.getElem_cons_succ, List.getElem_cons_zero, Act.put, List.setIfInBounds_toArray, List.set_cons_succ, List.set_cons_zero])
        refine wpAnyH_ready (rs := [10]) (by kernel_rfl) (by simp) (AllReadyH.cons rfl (fun K hK => ?_) AllReadyH.nil)
        rw [if_pos (by kernel_rfl)]
        go_simp
        have hgr := World.grownBy_alloc Wd (.cells #[.int .i8 x, .int .i8 y, besV gl m (m + k0)] 91) none
        have N := heap_at Wd (.cells #[.int .i8 x, .int .i8 y, besV gl m (m + k0)] 91) _ rfl
        have hH2 : Below w.heap.size w (Wd.alloc (.cells #[.int .i8 x, .int .i8 y, besV gl m (m + k0)] 91)) ∧ (Wd.alloc (.cells #[.int .i8 x, .int .i8 y, besV gl m (m + k0)] 91)).heap[w.heap.size]? = some (.cells (vrow 266 s.at) 37) ∧ (Wd.alloc (.cells #[.int .i8 x, .int .i8 y, besV gl m (m + k0)] 91)).heap[lb]? = some (.cells (vrow 1 fun _ => (.slice (some ⟨gl, 0, none⟩) (m + k0) 256)) 34) ∧ (Wd.alloc (.cells #[.int .i8 x, .int .i8 y, besV gl m (m + k0)] 91)).heap[Bx]? = some (.cells (vrow 2 (spAt x y)) 61) ∧ (Wd.alloc (.cells #[.int .i8 x, .int .i8 y, besV gl m (m + k0)] 91)).ownsRow w.heap.size 61 2 (.slice (some ⟨gl, 0, none⟩) (m + k0) 256) (m + k0) (vals (nbAll s L) ++ vals (nbs s x y 4)) := ⟨hH.1.alloc hH.1.size _, heap_past _ _ _ _ (row_lt hH.2.1) hH.2.1, heap_past _ _ _ _ (row_lt hH.2.2.1) hH.2.2.1, heap_past _ _ _ _ (row_lt hH.2.2.2.1) hH.2.2.2.1, hH.2.2.2.2.alloc _⟩
        replace PB2 := heap_past _ (.cells #[.int .i8 x, .int .i8 y, besV gl m (m + k0)] 91) _ _ (row_lt PB2) PB2
        replace O22 := O22.alloc (.cells #[.int .i8 x, .int .i8 y, besV gl m (m + k0)] 91)
        replace hCk2 := hCk2.step hgr (fun j e => by cases e)
        refine hK.out _ _ hH2 (fun hH => ?_)
        clear hK K hH2 hgr
        generalize Wd.heap.size = nb at N ⊢
        generalize Wd.alloc _ = We at hH N PB2 O22 hCk2 ⊢
        (try simp only [List.getElem_toArray, List.getElem_cons_succ, List.getElem_cons_zero, Act.put, List.setIfInBounds_toArray, List.set_cons_succ, List.set_cons_zero])
        refine wpAnyH_ready (rs := [11]) (by kernel_rfl) (by simp) (AllReadyH.cons rfl (fun K hK => ?_) AllReadyH.nil)
        rw [if_pos (by kernel_rfl)]
        refine wp_append_fits (.tmp 24) (.tmp 34) 75 rfl w.heap.size 91 j0 3 Tryd.underlying75 hj hy1 gp L.length 64 _ (by kernel_rfl) O22 ⟨nb, 0, none⟩ 1 1 [.int .i8 x, .int .i8 y, besV gl m (m + k0)] (by kernel_rfl) rfl (World.news_of_block N) (by simp [Value.oneCell', besV]) (by omega) ?_
        intro Wf O23 hgf
        have n1 := row_lt hH.2.1
        have n2 := row_lt hH.2.2.1
        have n3 := row_lt hH.2.2.2.1
        have n4 := row_lt PB2
        have hH2 : Below w.heap.size w Wf ∧ Wf.heap[w.heap.size]? = some (.cells (vrow 266 s.at) 37) ∧ Wf.heap[lb]? = some (.cells (vrow 1 fun _ => (.slice (some ⟨gl, 0, none⟩) (m + k0) 256)) 34) ∧ Wf.heap[Bx]? = some (.cells (vrow 2 (spAt x y)) 61) ∧ Wf.ownsRow w.heap.size 61 2 (.slice (some ⟨gl, 0, none⟩) (m + k0) 256) (m + k0) (vals (nbAll s L) ++ vals (nbs s x y 4)) := ⟨hH.1.grown hgf hH.1.size (fun q hq => by cases hq; omega), (hgf.block _ n1 (by simp; omega)).trans hH.2.1, (hgf.block _ n2 (by simp; omega)).trans hH.2.2.1, (hgf.block _ n3 (by simp; omega)).trans hH.2.2.2.1, hH.2.2.2.2.kept hgf (.inr (by simp [Value.ownBlock]; omega))⟩
        replace PB2 := (hgf.block _ n4 (by simp; omega)).trans PB2
        replace hCk2 := hCk2.step hgf (fun j e => by cases e; exact ⟨by omega, by omega, by omega⟩)
        refine hK.out _ _ hH2 (fun hH => ?_)
        clear hK K hH2 hgf N n1 n2 n3 n4 O22
        (try simp only [List.getElem_toArray, List.getElem_cons_succ, List.getElem_cons_zero, Act.put, List.setIfInBounds_toArray, List.set_cons_succ, List.set_cons_zero])
        refine wpAnyH_ready (rs := [12]) (by kernel_rfl) (by simp) (AllReadyH.cons rfl (fun K hK => ?_) AllReadyH.nil)
        rw [if_pos (by kernel_rfl)]
        unfold Oper.wp
        rw [run_store1 75 (.tmp 4) (.tmp 35) rfl pb 0 (by kernel_rfl) 1 (fun _ => (.slice (some ⟨gp, 0, none⟩) L.length 64)) (.slice (some ⟨gp, 0, none⟩) (L.length + 1) 64) (by kernel_rfl) 75 size_pls PB2 (by omega) rfl, Oper.upon_skip, vrow_over_all]
        have hgr := grown_set (grown_refl Wf (some pb)) (vrow 1 fun _ => (.slice (some ⟨gp, 0, none⟩) (L.length + 1) 64))
        have hH2 : Below w.heap.size w (Wf.setRow pb (vrow 1 fun _ => (.slice (some ⟨gp, 0, none⟩) (L.length + 1) 64))) ∧ (Wf.setRow pb (vrow 1 fun _ => (.slice (some ⟨gp, 0, none⟩) (L.length + 1) 64))).heap[w.heap.size]? = some (.cells (vrow 266 s.at) 37) ∧ (Wf.setRow pb (vrow 1 fun _ => (.slice (some ⟨gp, 0, none⟩) (L.length + 1) 64))).heap[lb]? = some (.cells (vrow 1 fun _ => (.slice (some ⟨gl, 0, none⟩) (m + k0) 256)) 34) ∧ (Wf.setRow pb (vrow 1 fun _ => (.slice (some ⟨gp, 0, none⟩) (L.length + 1) 64))).heap[Bx]? = some (.cells (vrow 2 (spAt x y)) 61) ∧ (Wf.setRow pb (vrow 1 fun _ => (.slice (some ⟨gp, 0, none⟩) (L.length + 1) 64))).ownsRow w.heap.size 61 2 (.slice (some ⟨gl, 0, none⟩) (m + k0) 256) (m + k0) (vals (nbAll s L) ++ vals (nbs s x y 4)) := ⟨Below_setRow hH.1 (show w.heap.size ≤ pb by omega) _, row_set' (g := pb) (show w.heap.size ≠ pb by omega) hH.2.1 _, row_set' (g := pb) (show lb ≠ pb by omega) hH.2.2.1 _, row_set' (g := pb) (show Bx ≠ pb by omega) hH.2.2.2.1 _, hH.2.2.2.2.kept hgr (.inr (by simp [Value.ownBlock]; omega))⟩
        replace PB2 := row_set PB2 (vrow 1 fun _ => (.slice (some ⟨gp, 0, none⟩) (L.length + 1) 64))
        replace O23 := O23.kept hgr (.inr (by simp [Value.ownBlock]; omega))
        replace hCk2 := hCk2.step hgr (fun j e => by cases e; exact ⟨by omega, by omega, by omega⟩)
        refine hK.out _ _ hH2 (fun hH => ?_)
        clear hK K hH2 hgr
        refine wpAnyH_done (by kernel_rfl) ?_ _
        refine ⟨rfl, ?_⟩
        obtain ⟨hB, P, LB, R, O1⟩ := hH
        have el : (L ++ [(⟨(x, y), hx8, hy8⟩ : Sp8)]).length = L.length + 1 := by simp
        have en : (nbAll s (L ++ [(⟨(x, y), hx8, hy8⟩ : Sp8)])).length = m + k0 := by rw [nbAll_app, List.length_append, HM.out, HK.out]
        have ev : vals (nbAll s (L ++ [(⟨(x, y), hx8, hy8⟩ : Sp8)])) = vals (nbAll s L) ++ vals (nbs s x y 4) := by rw [nbAll_app, vals_app]
        have ep : pvals s gl 0 (L ++ [(⟨(x, y), hx8, hy8⟩ : Sp8)]) = pvals s gl 0 L ++ [.int .i8 x, .int .i8 y, besV gl m (m + k0)] := by rw [pvals_app, Nat.zero_add, HM.out, HK.out]
        exact ⟨hCk2.keep, hCk2.kp, P, by rw [HAP.out, en]; exact LB, by rw [HAP.out, el]; exact PB2, by rw [HAP.out, en, ev]; exact O1, by rw [HAP.out, el, ep]; exact O23, hB⟩
      · rw [if_pos (by kernel_rfl)]
        go_simp
        have hgr := World.grownBy_alloc Wd (.cells #[.int .i8 x, .int .i8 y, besV gl m (m + k0)] 91) none
        have N := heap_at Wd (.cells #[.int .i8 x, .int .i8 y, besV gl m (m + k0)] 91) _ rfl
        have hH2 : Below w.heap.size w (Wd.alloc (.cells #[.int .i8 x, .int .i8 y, besV gl m (m + k0)] 91)) ∧ (Wd.alloc (.cells #[.int .i8 x, .int .i8 y, besV gl m (m + k0)] 91)).heap[w.heap.size]? = some (.cells (vrow 266 s.at) 37) ∧ (Wd.alloc (.cells #[.int .i8 x, .int .i8 y, besV gl m (m + k0)] 91)).heap[lb]? = some (.cells (vrow 1 fun _ => (.slice (some ⟨gl, 0, none⟩) (m + k0) 256)) 34) ∧ (Wd.alloc (.cells #[.int .i8 x, .int .i8 y, besV gl m (m + k0)] 91)).heap[Bx]? = some (.cells (vrow 2 (spAt x y)) 61) ∧ (Wd.alloc (.cells #[.int .i8 x, .int .i8 y, besV gl m (m + k0)] 91)).ownsRow w.heap.size 61 2 (.slice (some ⟨gl, 0, none⟩) (m + k0) 256) (m + k0) (vals (nbAll s L) ++ vals (nbs s x y 4)) := ⟨hH.1.alloc hH.1.size _, heap_past _ _ _ _ (row_lt hH.2.1) hH.2.1, heap_past _ _ _ _ (row_lt hH.2.2.1) hH.2.2.1, heap_past _ _ _ _ (row_lt hH.2.2.2.1) hH.2.2.2.1, hH.2.2.2.2.alloc _⟩
        replace PB2 := heap_past _ (.cells #[.int .i8 x, .int .i8 y, besV gl m (m + k0)] 91) _ _ (row_lt PB2) PB2
        replace O22 := O22.alloc (.cells #[.int .i8 x, .int .i8 y, besV gl m (m + k0)] 91)
        replace hCk2 := hCk2.step hgr (fun j e => by cases e)
        refine hK.out _ _ hH2 (fun hH => ?_)
        clear hK K hH2 hgr
        generalize Wd.heap.size = nb at N ⊢
        generalize Wd.alloc _ = We at hH N PB2 O22 hCk2 ⊢
        (try simp only [List.getElem_toArray, List.getElem_cons_succ, List.getElem_cons_zero, Act.put, List.setIfInBounds_toArray, List.set_cons_succ, List.set_cons_zero])
        refine wpAnyH_ready (rs := [0]) (by kernel_rfl) (by simp) (AllReadyH.cons rfl (fun K hK => ?_) AllReadyH.nil)
        rw [if_pos (by kernel_rfl)]
        unfold Oper.wp
        rw [run_ld1 75 (.tmp 4) rfl pb 0 (by kernel_rfl) 1 (fun _ => (.slice (some ⟨gp, 0, none⟩) L.length 64)) 75 _ Tryd.underlying75 rfl PB2 (by omega)]
        refine hK.out _ _ hH (fun hH => ?_)
        clear hK K
        (try simp only [List.getElem_toArray, List.getElem_cons_succ, List.getElem_cons_zero, Act.put, List.setIfInBounds_toArray, List.set_cons_succ, List.set_cons_zero])
        refine wpAnyH_ready (rs := [11]) (by kernel_rfl) (by simp) (AllReadyH.cons rfl (fun K hK => ?_) AllReadyH.nil)
        rw [if_pos (by kernel_rfl)]
        refine wp_append_fits (.tmp 24) (.tmp 34) 75 rfl w.heap.size 91 j0 3 Tryd.underlying75 hj hy1 gp L.length 64 _ (by kernel_rfl) O22 ⟨nb, 0, none⟩ 1 1 [.int .i8 x, .int .i8 y, besV gl m (m + k0)] (by kernel_rfl) rfl (World.news_of_block N) (by simp [Value.oneCell', besV]) (by omega) ?_
        intro Wf O23 hgf
        have n1 := row_lt hH.2.1
        have n2 := row_lt hH.2.2.1
        have n3 := row_lt hH.2.2.2.1
        have n4 := row_lt PB2
        have hH2 : Below w.heap.size w Wf ∧ Wf.heap[w.heap.size]? = some (.cells (vrow 266 s.at) 37) ∧ Wf.heap[lb]? = some (.cells (vrow 1 fun _ => (.slice (some ⟨gl, 0, none⟩) (m + k0) 256)) 34) ∧ Wf.heap[Bx]? = some (.cells (vrow 2 (spAt x y)) 61) ∧ Wf.ownsRow w.heap.size 61 2 (.slice (some ⟨gl, 0, none⟩) (m + k0) 256) (m + k0) (vals (nbAll s L) ++ vals (nbs s x y 4)) := ⟨hH.1.grown hgf hH.1.size (fun q hq => by cases hq; omega), (hgf.block _ n1 (by simp; omega)).trans hH.2.1, (hgf.block _ n2 (by simp; omega)).trans hH.2.2.1, (hgf.block _ n3 (by simp; omega)).trans hH.2.2.2.1, hH.2.2.2.2.kept hgf (.inr (by simp [Value.ownBlock]; omega))⟩
        replace PB2 := (hgf.block _ n4 (by simp; omega)).trans PB2
        replace hCk2 := hCk2.step hgf (fun j e => by cases e; exact ⟨by omega, by omega, by omega⟩)
        refine hK.out _ _ hH2 (fun hH => ?_)
        clear hK K hH2 hgf N n1 n2 n3 n4 O22
        (try simp only [List.getElem_toArray, List.getElem_cons_succ, List.getElem_cons_zero, Act.put, List.setIfInBounds_toArray, List.set_cons_succ, List.set_cons_zero])
        refine wpAnyH_ready (rs := [12]) (by kernel_rfl) (by simp) (AllReadyH.cons rfl (fun K hK => ?_) AllReadyH.nil)
        rw [if_pos (by kernel_rfl)]
        unfold Oper.wp
        rw [run_store1 75 (.tmp 4) (.tmp 35) rfl pb 0 (by kernel_rfl) 1 (fun _ => (.slice (some ⟨gp, 0, none⟩) L.length 64)) (.slice (some ⟨gp, 0, none⟩) (L.length + 1) 64) (by kernel_rfl) 75 size_pls PB2 (by omega) rfl, Oper.upon_skip, vrow_over_all]
        have hgr := grown_set (grown_refl Wf (some pb)) (vrow 1 fun _ => (.slice (some ⟨gp, 0, none⟩) (L.length + 1) 64))
        have hH2 : Below w.heap.size w (Wf.setRow pb (vrow 1 fun _ => (.slice (some ⟨gp, 0, none⟩) (L.length + 1) 64))) ∧ (Wf.setRow pb (vrow 1 fun _ => (.slice (some ⟨gp, 0, none⟩) (L.length + 1) 64))).heap[w.heap.size]? = some (.cells (vrow 266 s.at) 37) ∧ (Wf.setRow pb (vrow 1 fun _ => (.slice (some ⟨gp, 0, none⟩) (L.length + 1) 64))).heap[lb]? = some (.cells (vrow 1 fun _ => (.slice (some ⟨gl, 0, none⟩) (m + k0) 256)) 34) ∧ (Wf.setRow pb (vrow 1 fun _ => (.slice (some ⟨gp, 0, none⟩) (L.length + 1) 64))).heap[Bx]? = some (.cells (vrow 2 (spAt x y)) 61) ∧ (Wf.setRow pb (vrow 1 fun _ => (.slice (some ⟨gp, 0, none⟩) (L.length + 1) 64))).ownsRow w.heap.size 61 2 (.slice (some ⟨gl, 0, none⟩) (m + k0) 256) (m + k0) (vals (nbAll s L) ++ vals (nbs s x y 4)) := ⟨Below_setRow hH.1 (show w.heap.size ≤ pb by omega) _, row_set' (g := pb) (show w.heap.size ≠ pb by omega) hH.2.1 _, row_set' (g := pb) (show lb ≠ pb by omega) hH.2.2.1 _, row_set' (g := pb) (show Bx ≠ pb by omega) hH.2.2.2.1 _, hH.2.2.2.2.kept hgr (.inr (by simp [Value.ownBlock]; omega))⟩
        replace PB2 := row_set PB2 (vrow 1 fun _ => (.slice (some ⟨gp, 0, none⟩) (L.length + 1) 64))
        replace O23 := O23.kept hgr (.inr (by simp [Value.ownBlock]; omega))
        replace hCk2 := hCk2.step hgr (fun j e => by cases e; exact ⟨by omega, by omega, by omega⟩)
        refine hK.out _ _ hH2 (fun hH => ?_)
        clear hK K hH2 hgr
        refine wpAnyH_done (by kernel_rfl) ?_ _
        refine ⟨rfl, ?_⟩
        obtain ⟨hB, P, LB, R, O1⟩ := hH
        have el : (L ++ [(⟨(x, y), hx8, hy8⟩ : Sp8)]).length = L.length + 1 := by simp
        have en : (nbAll s (L ++ [(⟨(x, y), hx8, hy8⟩ : Sp8)])).length = m + k0 := by rw [nbAll_app, List.length_append, HM.out, HK.out]
        have ev : vals (nbAll s (L ++ [(⟨(x, y), hx8, hy8⟩ : Sp8)])) = vals (nbAll s L) ++ vals (nbs s x y 4) := by rw [nbAll_app, vals_app]
        have ep : pvals s gl 0 (L ++ [(⟨(x, y), hx8, hy8⟩ : Sp8)]) = pvals s gl 0 L ++ [.int .i8 x, .int .i8 y, besV gl m (m + k0)] := by rw [pvals_app, Nat.zero_add, HM.out, HK.out]
        exact ⟨hCk2.keep, hCk2.kp, P, by rw [HAP.out, en]; exact LB, by rw [HAP.out, el]; exact PB2, by rw [HAP.out, en, ev]; exact O1, by rw [HAP.out, el, ep]; exact O23, hB⟩
    · rw [hw] at HW0
      have hap1 := hap
      rw [hw, if_pos rfl, List.append_nil] at hap1
      have HW := Go.Lib.hid HW0
      clear HW0 hw hap
      have HAP := Go.Lib.hid hap1
      clear hap1
      gi_wp2_with (first
        | (with_reducible refine wlAtI 15 rfl ?_; refine loadallIn rfl 37 (.tmp 1) rfl (w.heap.size) rfl 266 s.at 37 _ Tryd.underlying37 rfl size_sheet P.out ?_)
        | (with_reducible refine wlAtI 16 rfl ?_; refine loadallIn rfl 61 (.tmp 5) rfl Bx rfl 2 (spAt x y) 61 _ Tryd.underlying61 rfl size_spot R.out ?_)
        | (refine ⟨trivial, ?_⟩; (gi_at_call 62; refine (callsFW (ro := some _) (HW.out _)).mono ?_; rintro e w1 ⟨rfl, hb⟩; have hgn := grown_next (grown_refl Wc none) hb; replace R := Go.Lib.hid (row_next hb R.out); replace P := Go.Lib.hid (row_next hb P.out); replace LB := Go.Lib.hid (row_next hb LB.out); replace PB := Go.Lib.hid (row_next hb PB.out); replace O1 := Go.Lib.hid (O1.out.kept hgn (by cases hv : Value.ownBlock _ <;> simp)); replace O2 := Go.Lib.hid (O2.out.kept hgn (by cases hv : Value.ownBlock _ <;> simp)); replace hCk := Go.Lib.hid (hCk.out.step hgn (fun j e => by cases e)); replace hB := Go.Lib.hid (below_next hB.out hb); have hrl2 := hb.size; clear hb hgn)))
      exact ⟨hCk.out.keep, hCk.out.kp, P.out, by rw [HAP.out]; exact LB.out, by rw [HAP.out]; exact PB.out, by rw [HAP.out]; exact O1.out, by rw [HAP.out]; exact O2.out, hB.out⟩
  case done =>
    rintro D W hD ⟨P, LB, PB, O1, O2, hB⟩ hd
    rw [toSp_cells a c ha c (Nat.le_refl _) hc] at LB PB O1 O2
    replace hd := Go.Lib.hid hd; replace hB := Go.Lib.hid hB; replace PB := Go.Lib.hid PB
    clear P LB
    go_wp2_with (first
      | (with_reducible refine wlAt 36 rfl ?_; refine wpList_load1 rfl 75 (.tmp 4) rfl pb 0 rfl 1 (fun _ => .slice (some ⟨gp, 0, none⟩) (dryL s (cellsL a c)).length 64) _ _ Tryd.underlying75 rfl PB.out (by omega) ?_))
    have hlt := row_lt hd.out
    refine leaveM rfl hd.out (results_tmp rfl _ _ _) ?_
    exact ⟨gp, gl, rfl, ⟨O1.kept (grownBy_putObj' W D _) (.inr (by simp [Value.ownBlock]; omega)), O2.kept (grownBy_putObj' W D _) (.inr (by simp [Value.ownBlock]; omega))⟩, below_put _ hB.out (by omega) hlt⟩
  case stop =>
    rintro D c pre W hD h hd
    exact h.elim
end Go.Proofs.YthienbbecbakjaaDoor
