import Derived.Deep.RegionHeld3
import Derived.Test.YtfhfiaphdgfmnaaDoorBkK
import Derived.Test.YtfhfiaphdgfmnaaDoorTkS
import Derived.Test.YtfhfiaphdgfmnaaDoorArrMir
import Derived.Test.YtfhfiaphdgfmnaaDoorArr
namespace Go.Proofs.YtfhfiaphdgfmnaaDoor
open Go.RowKit
set_option maxRecDepth 100000
set_option linter.unusedVariables false
set_option linter.unusedSimpArgs false
theorem zero_stkB : ∀ w, (zeroValue 35).run Tryd.prog w = .ok (.slice none 0 0) w := fun _ => by kernel_rfl
theorem size_stkB : (Tryd.prog.info? 35).map (·.size) = some 1 := by kernel_rfl
theorem rw_stkB : (Tryd.prog.underlying 35).map (·.isRow) = some false := by kernel_rfl
/-- the cells that the rounds append -/
def bkK (ss : Nat → Sh) (n : Nat) (l : List Nat) : List Value := l.flatMap fun x => (vrow 266 (mirS (ss (n - 1 - x))).at).toList
theorem bkK_snoc (ss : Nat → Sh) (n : Nat) (l : List Nat) (x : Nat) : bkK ss n (l ++ [x]) = bkK ss n l ++ (vrow 266 (mirS (ss (n - 1 - x))).at).toList := by unfold bkK; simp
theorem bkK_range (ss : Nat → Sh) (n : Nat) : ∀ k, bkK ss n (List.range k) = xsK (turS ss n) k
  | 0 => rfl
  | k + 1 => by rw [List.range_succ, bkK_snoc, bkK_range ss n k]; rfl
theorem arrK_any (s : Sh) (b : Nat) (w : World) (ho : okI s = true) (hs : w.heap[b]? = some (.cells (vrow 266 s.at) 39)) : Calls Tryd.prog 91 #[.agg (vrow 266 s.at), .int .i8 s.wide, .int .i8 s.high, .func (.func 92) #[.agg (vrow 266 s.at)] #[]] w fun e w' => e = .returned (.agg (vrow 266 (mirS s).at)) ∧ Below w.heap.size w w' := by
  obtain ⟨e1, e2, h3, h4⟩ := okI_nat ho
  have h := arrMir s b s.wide.toNat s.high.toNat (fun x y => s.wide.toNat - 1 - x) (fun x y => y) h3.2 h4.2 (fun x y hx hy => ⟨by omega, by omega⟩) w hs (fun x y W hx hy _ => mird_any x y s s.wide.toNat W e1 h3.2 hx (by omega))
  rw [arr_eq' s _ _ _ _ h3.2 h4.2 _ (fun _ => rfl)] at h
  rw [e1, e2]
  exact h
theorem wpo_bsl {P : Program} {o : Oper} {a : Act} {w : World} {K : Act → World → Prop} {Q : Exit → Act → World → Prop} (t : TypeId) (x : Operand) (hop : o.op = .buildSlice t 1 #[(0, x)]) (v : Value) (hx : a.eval x = v) (e : TypeId) (cs : Array Value)
    (hr : (Instr.buildSlice t 1 #[(0, v)]).run P w = .ok (.slice (some ⟨w.heap.size, 0, none⟩) 1 1) (w.alloc (.cells cs e)))
    (h : K (a.put o.dst (.slice (some ⟨w.heap.size, 0, none⟩) 1 1)) (w.alloc (.cells cs e))) : Oper.wp P o a w K Q := by
  unfold Oper.wp
  simp [execOp, hop, hx, hr, Result.andThen]
  exact h
theorem wpo_append_fits {P : Program} (w : World) {o : Oper} {a : Act} {K : Act → World → Prop} {Q : Exit → Act → World → Prop} (s x : Operand) (t : TypeId) (hop : o.op = Op.call { callee := Callee.builtin Builtin.append, args := #[s, x], argTypes := #[t, t] })
    (base : Nat) (e : TypeId) (i : TypeInfo) (size : Nat) {d : TypeDesc} (h1 : P.underlying t = some d) (hd : d = .slice e) (h2 : P.info? e = some i) (h4 : i.size = size)
    (g k cap : Nat) (xs : List Value) (hs : a.eval s = .slice (some ⟨g, 0, none⟩) k cap) (hown : w.ownsRow base e size (.slice (some ⟨g, 0, none⟩) k cap) k xs) (ad : Addr) (m c : Nat) (news : List Value) (hx : a.eval x = .slice (some ad) m c) (hn : news.length = m * size)
    (hc : ∀ j u, news[j]? = some u → w.cell? (ad.add j) = some u) (h1c : ∀ u ∈ news, u.oneCell' = true) (b1 : k + m ≤ cap)
    (hK : ∀ w', w'.ownsRow base e size (.slice (some ⟨g, 0, none⟩) (k + m) cap) (k + m) (xs ++ news) → w.grownBy w' (some g) → K (a.put o.dst (.slice (some ⟨g, 0, none⟩) (k + m) cap)) w') : Oper.wp P o a w K Q := by
  subst hd
  obtain ⟨w', hrun, r1, r2⟩ := run_append_fits (P := P) w base t o.type e i size h1 h2 h4 g k cap xs hown ad m c news hn hc h1c b1
  unfold Oper.wp
  simp [execOp, hop, resolve, invoke, builtin, hs, hx, hrun, Result.andThen]
  exact hK w' r1 r2
attribute [local go_sem] Oper.semAt_some
set_option maxRecDepth 100000 in
set_option maxHeartbeats 4000000 in
theorem turnK_any (ss : Nat → Sh) (D n : Nat) (w : World) (hn : n ≤ 1048576) (hoo : ∀ k, k < n → okI (ss k) = true) (h2 : w.heap[D]? = some (.cells (vrow (n * 266) (stF ss)) 39)) : Calls Tryd.prog 56 #[.slice (some ⟨D, 0, none⟩) n n] w fun e w' => e = .returned (.slice (some ⟨w.heap.size, 0, none⟩) n n) ∧ w'.ownsRow w.heap.size 39 266 (.slice (some ⟨w.heap.size, 0, none⟩) n n) n (bkK ss n (List.range n)) ∧ Below w.heap.size w w' := by
  obtain ⟨i0, hi, hz0, hz1, hz2⟩ := info_partsK info_shK
  have hDl := row_lt h2
  have HOO := Go.Lib.hid hoo
  clear hoo
  have zs := zero_sheet
  have z1 := zero_stkB
  have P := Go.Lib.hid h2
  have hBn : n * 522 ≤ 281474976710656 := by omega
  refine (callsIn_wide (n := 9)).1 ?_
  refine callsIn_of_wp_marks Tryd.func56 rfl trivial ?_ rfl
  simp only [Tryd.ntmps56, List.size_toArray, List.length_cons, List.length_nil, Nat.reduceAdd, Nat.reduceSub, Array.replicate_succ, Array.replicate_zero, List.push_toArray, List.append_toArray, List.nil_append, List.cons_append]
  refine wpIn_wide.2 ?_
  go_wp2_with (first
    | go_skip
    | (with_reducible refine wlAt 8 rfl ?_; refine wpList_make_own _ rfl (.const (.int .i64 0)) (.tmp 7) 35 rfl (w.heap.size) 39 i0 (.agg (vrow 266 Sh.zero.at)) 266 Tryd.underlying35 hi hz0 hz1 .i64 .i64 n n rfl rfl rfl (by rw [hz2]; omega) (by simp only [maxLen]; omega) (Nat.le_refl _) ?_; intro w1 hO1 hg1; simp only [Act.put, List.setIfInBounds_toArray, List.set_cons_succ, List.set_cons_zero]; have hg1s := hg1.size; have hB := Go.Lib.hid ((Below.refl w.heap.size w).grown hg1 (Nat.le_refl _) (fun q hq => by cases hq)); replace P := Go.Lib.hid ((hg1.block _ hDl (by simp)).trans P.out); have hgl1 : w.heap.size < w1.heap.size := (hO1.lt _ rfl).2; clear hg1 hg1s)
    | (with_reducible refine wlOp (.store 35 (.tmp 3) (.tmp 8)) rfl ?_; refine wpList_store1 rfl 35 (.tmp 3) (.tmp 8) rfl (w1.heap.size) 0 rfl 1 (fun _ => .slice none 0 0) (.slice (some ⟨w.heap.size, 0, none⟩) 0 n) rfl 35 size_stkB (heap_at _ _ _ rfl) (by omega) rfl ?_; rw [vrow_over_all, setRow_at _ _ _ _ _ rfl]; have LB := Go.Lib.hid (heap_at w1 (.cells (vrow 1 fun _ => (.slice (some ⟨w.heap.size, 0, none⟩) 0 n)) 35) _ rfl); replace P := Go.Lib.hid (heap_past _ (.cells (vrow 1 fun _ => (.slice (some ⟨w.heap.size, 0, none⟩) 0 n)) 35) _ _ (row_lt P.out) P.out); have O1 := Go.Lib.hid (hO1.alloc (.cells (vrow 1 fun _ => (.slice (some ⟨w.heap.size, 0, none⟩) 0 n)) 35)); replace hB := Go.Lib.hid (hB.out.alloc hB.out.size (.cells (vrow 1 fun _ => (.slice (some ⟨w.heap.size, 0, none⟩) 0 n)) 35)); generalize hlb : w1.heap.size = lb at LB hgl1 ⊢; generalize w1.alloc _ = w2 at P LB O1 hB ⊢; clear hO1 hlb)
    | (go_at_call 90; refine (back_anyK _ rfl _).mono ?_; rintro e w5 ⟨rfl, rfl⟩))
  have q1 := row_lt LB.out
  have q2 := row_lt P.out
  have c1 : (w2.alloc (.cells (vrow 1 fun _ => .slice (some ⟨D, 0, none⟩) n n) 35)).heap[w2.heap.size]? = some (.cells (vrow 1 fun _ => .slice (some ⟨D, 0, none⟩) n n) 35) := heap_at w2 (.cells (vrow 1 fun _ => .slice (some ⟨D, 0, none⟩) n n) 35) _ rfl
  have P0 := heap_past w2 (.cells (vrow 1 fun _ => .slice (some ⟨D, 0, none⟩) n n) 35) _ _ q2 P.out
  have LB0 := heap_past w2 (.cells (vrow 1 fun _ => .slice (some ⟨D, 0, none⟩) n n) 35) _ _ q1 LB.out
  have O10 := O1.out.alloc (.cells (vrow 1 fun _ => .slice (some ⟨D, 0, none⟩) n n) 35)
  have B0 := hB.out.alloc hB.out.size (.cells (vrow 1 fun _ => .slice (some ⟨D, 0, none⟩) n n) 35)
  have s0 : (w2.alloc (.cells (vrow 1 fun _ => .slice (some ⟨D, 0, none⟩) n n) 35)).heap.size = w2.heap.size + 1 := by simp
  have hWe : w2.alloc (.cells #[.slice (some ⟨D, 0, none⟩) n n] 35) = w2.alloc (.cells (vrow 1 fun _ => .slice (some ⟨D, 0, none⟩) n n) 35) := rfl
  rw [hWe]
  generalize w2.alloc (.cells (vrow 1 fun _ => .slice (some ⟨D, 0, none⟩) n n) 35) = W0 at c1 P0 LB0 O10 B0 s0 ⊢
  generalize w2.heap.size = bx at c1 s0 q1 q2 ⊢
  clear hWe hB O1 LB P h2
  refine wp_backK (d := 5) bx D n ss hn rfl c1 P0
    (fun pre W => W.heap[D]? = some (.cells (vrow (n * 266) (stF ss)) 39) ∧ W.heap[lb]? = some (.cells (vrow 1 fun _ => (.slice (some ⟨w.heap.size, 0, none⟩) pre.length n)) 35) ∧ W.ownsRow w.heap.size 39 266 (.slice (some ⟨w.heap.size, 0, none⟩) pre.length n) pre.length (bkK ss n pre) ∧ Below w.heap.size w W)
    (fun _ _ _ => False)
    (OwnFrom.and (own_row (by omega)) (OwnFrom.and (own_rowDB (o := fun pre : List Nat => .cells (vrow 1 fun _ => (.slice (some ⟨w.heap.size, 0, none⟩) pre.length n)) 35) (by omega)) (OwnFrom.and (own_ownsRowB _ _ _) (ownFrom_below (Nat.le_refl _) (by omega)))))
    (fun c => own_pure _) ⟨P0, LB0, O10, B0⟩ ?assign ?body ?done ?stop
  case assign =>
    intro l x W K hK
    simp only [List.setIfInBounds_toArray, List.set_cons_succ, List.set_cons_zero] at hK ⊢
    gi_wp2_with (refine wpListIn_storeall rfl 39 (.tmp 5) (.tmp 12) rfl _ rfl 266 Sh.zero.at (ss (n - 1 - x)).at rfl 39 size_sheet (heap_at _ _ _ rfl) (fun i _ => Sh.one _ i) ?_; rw [setRow_at _ _ _ _ _ rfl])
    exact hK
  case body =>
    rintro l pre x Wb W Bx hK hBx R hsz ⟨P, LB, O1, hB⟩ hlen
    simp only [List.setIfInBounds_toArray, List.set_cons_succ, List.set_cons_zero] at R ⊢
    have hap : bkK ss n (pre ++ [x]) = bkK ss n pre ++ (vrow 266 (mirS (ss (n - 1 - x))).at).toList := bkK_snoc ss n pre x
    have HAP := Go.Lib.hid hap
    have hel : (pre ++ [x]).length = pre.length + 1 := by simp
    have HEL := Go.Lib.hid hel
    clear hap hel
    have hrl := row_lt R
    have hCk := Go.Lib.hid ((CkB.start (N := W0.heap.size) (b1 := bx) (b2 := D) (X := Wb) (by omega) (by omega)).step (grown_next (grown_refl Wb none) hK) (fun j e => by cases e))
    have HA := Go.Lib.hid fun w h => arrK_any (ss (n - 1 - x)) Bx w (HOO.out _ (by omega)) h
    replace R := Go.Lib.hid R; replace P := Go.Lib.hid P; replace LB := Go.Lib.hid LB; replace O1 := Go.Lib.hid O1; replace hB := Go.Lib.hid hB
    clear hK c1 P0 LB0 O10 B0
    generalize mirS (ss (n - 1 - x)) = ms at HA HAP
    generalize ss (n - 1 - x) = sk at R HA ⊢
    have HBS := Go.Lib.hid (run_bsk ms)
    have hmf : ∀ (fn : Fn) (first cap : Array Value) (w : World), (Instr.makeFunc fn first cap).run Tryd.prog w = .ok (.func fn first cap) w := fun _ _ _ _ => rfl
    refine wpIn_block ?_
    have LB := LB.out
    have O1 := O1.out
    refine region_heldI (S := fun W' => Below w.heap.size w W' ∧ CkB W0.heap.size bx D Wb W' ∧ W'.heap[Bx]? = some (.cells (vrow 266 sk.at) 39) ∧ W'.heap[D]? = some (.cells (vrow (n * 266) (stF ss)) 39)) (by kernel_rfl) (by kernel_rfl) ⟨hB.out.drew, hCk.out.step (grown_drew (grown_refl W none)) (fun j e => by cases e), R.out, P.out⟩ (fun hH => ?_)
    replace LB : W.drew.heap[lb]? = _ := LB
    replace O1 := O1.drew
    clear R P hB hCk
    generalize World.drew _ = Y at hH LB O1 ⊢
    refine wpAnyH_take (i := 1) (v := (.agg (vrow 266 sk.at))) rfl (by kernel_rfl) (by kernel_rfl) (by kernel_rfl) (fun _ _ _ h => by cases h.1) (yields_row (by rfl) 39 _ rfl Bx (by kernel_rfl) 266 sk.at 39 _ Tryd.underlying39 rfl size_sheet (fun _ h => h.2.2.1)) hH ?_
    (try simp only [Act.put, List.setIfInBounds_toArray, List.set_cons_succ, List.set_cons_zero])
    refine wpAnyH_take (i := 2) (v := (.pointer (some ⟨Bx, 0, none⟩))) rfl (by kernel_rfl) (by kernel_rfl) (by kernel_rfl) (fun _ _ _ h => by cases h.1) (.inl ⟨by rfl, fun w _ => by go_simp⟩) hH ?_
    (try simp only [Act.put, List.setIfInBounds_toArray, List.set_cons_succ, List.set_cons_zero])
    refine wpAnyH_take (i := 3) (v := (sk.at 0)) rfl (by kernel_rfl) (by kernel_rfl) (by kernel_rfl) (fun _ _ _ h => by cases h.1) (yields_one (by rfl) 23 _ rfl Bx 0 (by kernel_rfl) 266 sk.at _ _ Tryd.underlying23 rfl (by omega) (fun _ h => h.2.2.1)) hH ?_
    (try simp only [Act.put, List.setIfInBounds_toArray, List.set_cons_succ, List.set_cons_zero])
    rw [Sh.at_0]
    refine wpAnyH_take (i := 4) (v := (.pointer (some ⟨Bx, 1, none⟩))) rfl (by kernel_rfl) (by kernel_rfl) (by kernel_rfl) (fun _ _ _ h => by cases h.1) (.inl ⟨by rfl, fun w _ => by go_simp⟩) hH ?_
    (try simp only [Act.put, List.setIfInBounds_toArray, List.set_cons_succ, List.set_cons_zero])
    refine wpAnyH_take (i := 5) (v := (sk.at 1)) rfl (by kernel_rfl) (by kernel_rfl) (by kernel_rfl) (fun _ _ _ h => by cases h.1) (yields_one (by rfl) 23 _ rfl Bx 1 (by kernel_rfl) 266 sk.at _ _ Tryd.underlying23 rfl (by omega) (fun _ h => h.2.2.1)) hH ?_
    (try simp only [Act.put, List.setIfInBounds_toArray, List.set_cons_succ, List.set_cons_zero])
    rw [Sh.at_1]
    refine wpAnyH_take (i := 6) (v := (.agg (vrow 266 sk.at))) rfl (by kernel_rfl) (by kernel_rfl) (by kernel_rfl) (fun _ _ _ h => by cases h.1) (yields_row (by rfl) 39 _ rfl Bx (by kernel_rfl) 266 sk.at 39 _ Tryd.underlying39 rfl size_sheet (fun _ h => h.2.2.1)) hH ?_
    (try simp only [Act.put, List.setIfInBounds_toArray, List.set_cons_succ, List.set_cons_zero])
    refine wpAnyH_take (i := 7) (v := (.func (.func 92) #[.agg (vrow 266 sk.at)] #[])) rfl (by kernel_rfl) (by kernel_rfl) (by kernel_rfl) (fun _ _ _ h => by cases h.1) (.inl ⟨by rfl, fun w _ => by go_simp⟩) hH ?_
    (try simp only [Act.put, List.setIfInBounds_toArray, List.set_cons_succ, List.set_cons_zero])
    refine wpAnyH_ready (rs := [0, 8]) (by kernel_rfl) (by simp) (AllReadyH.cons rfl (fun K hK => ?_) (AllReadyH.cons rfl (fun K hK => ?_) AllReadyH.nil))
    · rw [if_pos (by rfl)]
      unfold Oper.wp
      rw [run_ld1 35 (.tmp 3) rfl lb 0 (by kernel_rfl) 1 (fun _ => (.slice (some ⟨w.heap.size, 0, none⟩) pre.length n)) 35 _ Tryd.underlying35 rfl LB (by omega)]
      refine hK.out _ _ hH (fun hH => ?_)
      clear hK K
      (try simp only [Act.put, List.setIfInBounds_toArray, List.set_cons_succ, List.set_cons_zero])
      refine wpAnyH_ready (rs := [8]) (by kernel_rfl) (by simp) (AllReadyH.cons rfl (fun K hK => ?_) AllReadyH.nil)
      rw [if_pos (by rfl)]
      go_simp
      go_at_call 91
      refine (HA.out _ hH.2.2.1).mono ?_
      rintro o Y1 ⟨rfl, hb⟩
      replace hH : Below w.heap.size w Y1 ∧ CkB W0.heap.size bx D Wb Y1 ∧ Y1.heap[Bx]? = some (.cells (vrow 266 sk.at) 39) ∧ Y1.heap[D]? = some (.cells (vrow (n * 266) (stF ss)) 39) := ⟨below_next hH.1 hb, hH.2.1.step (grown_next (grown_refl _ none) hb) (fun j e => by cases e), row_next hb hH.2.2.1, row_next hb hH.2.2.2⟩
      replace LB := row_next hb LB
      replace O1 := O1.kept (grown_next (grown_refl _ none) hb) (by cases hv : Value.ownBlock _ <;> simp)
      clear hb
      refine hK.out _ _ hH (fun hH => ?_)
      clear hK K
      (try simp only [Act.put, List.setIfInBounds_toArray, List.set_cons_succ, List.set_cons_zero])
      refine wpAnyH_ready (rs := [9]) (by kernel_rfl) (by simp) (AllReadyH.cons rfl (fun K hK => ?_) AllReadyH.nil)
      rw [if_pos (by rfl)]
      refine wpo_bsl 35 (.tmp 21) rfl _ rfl 39 (vrow 266 ms.at) (HBS.out _) ?_
      have NW := heap_at Y1 (.cells (vrow 266 ms.at) 39) _ rfl
      have hH2 : Below w.heap.size w (Y1.alloc (.cells (vrow 266 ms.at) 39)) ∧ CkB W0.heap.size bx D Wb (Y1.alloc (.cells (vrow 266 ms.at) 39)) ∧ (Y1.alloc (.cells (vrow 266 ms.at) 39)).heap[Bx]? = some (.cells (vrow 266 sk.at) 39) ∧ (Y1.alloc (.cells (vrow 266 ms.at) 39)).heap[D]? = some (.cells (vrow (n * 266) (stF ss)) 39) := ⟨hH.1.alloc hH.1.size _, hH.2.1.step (World.grownBy_alloc Y1 _ none) (fun j e => by cases e), heap_past _ _ _ _ (row_lt hH.2.2.1) hH.2.2.1, heap_past _ _ _ _ (row_lt hH.2.2.2) hH.2.2.2⟩
      replace LB := heap_past Y1 (.cells (vrow 266 ms.at) 39) _ _ (row_lt LB) LB
      replace O1 := O1.alloc (.cells (vrow 266 ms.at) 39)
      generalize Y1.heap.size = nb at NW ⊢
      generalize Y1.alloc _ = Y2 at NW hH2 LB O1 ⊢
      refine hK.out _ _ hH2 (fun hH => ?_)
      clear hK K hH2
      (try simp only [Act.put, List.setIfInBounds_toArray, List.set_cons_succ, List.set_cons_zero])
      refine wpAnyH_ready (rs := [10]) (by kernel_rfl) (by simp) (AllReadyH.cons rfl (fun K hK => ?_) AllReadyH.nil)
      rw [if_pos (by rfl)]
      refine wpo_append_fits _ (.tmp 13) (.tmp 22) 35 rfl w.heap.size 39 i0 266 Tryd.underlying35 rfl hi hz1 w.heap.size pre.length n _ rfl O1 ⟨nb, 0, none⟩ 1 1 (vrow 266 ms.at).toList rfl (by simp [vrow]) (World.news_of_block NW) (sh_cellsK ms) (by omega) ?_
      intro Y3 hO3 hg3
      have hH2 : Below w.heap.size w Y3 ∧ CkB W0.heap.size bx D Wb Y3 ∧ Y3.heap[Bx]? = some (.cells (vrow 266 sk.at) 39) ∧ Y3.heap[D]? = some (.cells (vrow (n * 266) (stF ss)) 39) := ⟨hH.1.grown hg3 (by have := hH.1.size; omega) (fun q hq => by cases hq; omega), hH.2.1.step hg3 (fun j e => by cases e; exact ⟨by omega, by omega, by omega⟩), (hg3.block Bx (row_lt hH.2.2.1) (by simp; omega)).trans hH.2.2.1, (hg3.block D (row_lt hH.2.2.2) (by simp; omega)).trans hH.2.2.2⟩
      replace LB := (hg3.block lb (row_lt LB) (by simp; omega)).trans LB
      clear hg3
      refine hK.out _ _ hH2 (fun hH => ?_)
      clear hK K hH2
      (try simp only [Act.put, List.setIfInBounds_toArray, List.set_cons_succ, List.set_cons_zero])
      refine wpAnyH_ready (rs := [11]) (by kernel_rfl) (by simp) (AllReadyH.cons rfl (fun K hK => ?_) AllReadyH.nil)
      rw [if_pos (by rfl)]
      unfold Oper.wp
      rw [run_store1 35 (.tmp 3) (.tmp 23) rfl lb 0 (by kernel_rfl) 1 (fun _ => (.slice (some ⟨w.heap.size, 0, none⟩) pre.length n)) (.slice (some ⟨w.heap.size, 0, none⟩) (pre.length + 1) n) (by kernel_rfl) 35 size_stkB LB (by omega) rfl, Oper.upon_skip]
      rw [vrow_over_all]
      have hgr := grown_set (grown_refl Y3 (some lb)) (vrow 1 fun _ => (.slice (some ⟨w.heap.size, 0, none⟩) (pre.length + 1) n))
      have hH2 : Below w.heap.size w (Y3.setRow lb (vrow 1 fun _ => (.slice (some ⟨w.heap.size, 0, none⟩) (pre.length + 1) n))) ∧ CkB W0.heap.size bx D Wb (Y3.setRow lb (vrow 1 fun _ => (.slice (some ⟨w.heap.size, 0, none⟩) (pre.length + 1) n))) ∧ (Y3.setRow lb (vrow 1 fun _ => (.slice (some ⟨w.heap.size, 0, none⟩) (pre.length + 1) n))).heap[Bx]? = some (.cells (vrow 266 sk.at) 39) ∧ (Y3.setRow lb (vrow 1 fun _ => (.slice (some ⟨w.heap.size, 0, none⟩) (pre.length + 1) n))).heap[D]? = some (.cells (vrow (n * 266) (stF ss)) 39) := ⟨Below_setRow hH.1 (show w.heap.size ≤ lb by omega) _, hH.2.1.step hgr (fun j e => by cases e; exact ⟨by omega, by omega, by omega⟩), row_set' (g := lb) (show Bx ≠ lb by omega) hH.2.2.1 _, row_set' (g := lb) (show D ≠ lb by omega) hH.2.2.2 _⟩
      have LB2 := row_set LB (vrow 1 fun _ => (.slice (some ⟨w.heap.size, 0, none⟩) (pre.length + 1) n))
      have O3 := hO3.kept hgr (.inr (by simp [Value.ownBlock]; omega))
      clear hgr
      generalize World.setRow Y3 _ _ = Y4 at hH2 LB2 O3 ⊢
      refine hK.out _ _ hH2 (fun hH => ?_)
      clear hK K hH2
      (try simp only [Act.put, List.setIfInBounds_toArray, List.set_cons_succ, List.set_cons_zero])
      refine wpAnyH_done (by kernel_rfl) ?_ _
      refine ⟨rfl, ?_⟩
      exact ⟨hH.2.1.keep, hH.2.1.kp, hH.2.2.2, by rw [HEL.out]; exact LB2, by rw [HEL.out, HAP.out]; exact O3, hH.1⟩
    · rw [if_pos (by rfl)]
      go_simp
      go_at_call 91
      refine (HA.out _ hH.2.2.1).mono ?_
      rintro o Y1 ⟨rfl, hb⟩
      replace hH : Below w.heap.size w Y1 ∧ CkB W0.heap.size bx D Wb Y1 ∧ Y1.heap[Bx]? = some (.cells (vrow 266 sk.at) 39) ∧ Y1.heap[D]? = some (.cells (vrow (n * 266) (stF ss)) 39) := ⟨below_next hH.1 hb, hH.2.1.step (grown_next (grown_refl _ none) hb) (fun j e => by cases e), row_next hb hH.2.2.1, row_next hb hH.2.2.2⟩
      replace LB := row_next hb LB
      replace O1 := O1.kept (grown_next (grown_refl _ none) hb) (by cases hv : Value.ownBlock _ <;> simp)
      clear hb
      refine hK.out _ _ hH (fun hH => ?_)
      clear hK K
      (try simp only [Act.put, List.setIfInBounds_toArray, List.set_cons_succ, List.set_cons_zero])
      refine wpAnyH_ready (rs := [0, 9]) (by kernel_rfl) (by simp) (AllReadyH.cons rfl (fun K hK => ?_) (AllReadyH.cons rfl (fun K hK => ?_) AllReadyH.nil))
      · rw [if_pos (by rfl)]
        unfold Oper.wp
        rw [run_ld1 35 (.tmp 3) rfl lb 0 (by kernel_rfl) 1 (fun _ => (.slice (some ⟨w.heap.size, 0, none⟩) pre.length n)) 35 _ Tryd.underlying35 rfl LB (by omega)]
        refine hK.out _ _ hH (fun hH => ?_)
        clear hK K
        (try simp only [Act.put, List.setIfInBounds_toArray, List.set_cons_succ, List.set_cons_zero])
        refine wpAnyH_ready (rs := [9]) (by kernel_rfl) (by simp) (AllReadyH.cons rfl (fun K hK => ?_) AllReadyH.nil)
        rw [if_pos (by rfl)]
        refine wpo_bsl 35 (.tmp 21) rfl _ rfl 39 (vrow 266 ms.at) (HBS.out _) ?_
        have NW := heap_at Y1 (.cells (vrow 266 ms.at) 39) _ rfl
        have hH2 : Below w.heap.size w (Y1.alloc (.cells (vrow 266 ms.at) 39)) ∧ CkB W0.heap.size bx D Wb (Y1.alloc (.cells (vrow 266 ms.at) 39)) ∧ (Y1.alloc (.cells (vrow 266 ms.at) 39)).heap[Bx]? = some (.cells (vrow 266 sk.at) 39) ∧ (Y1.alloc (.cells (vrow 266 ms.at) 39)).heap[D]? = some (.cells (vrow (n * 266) (stF ss)) 39) := ⟨hH.1.alloc hH.1.size _, hH.2.1.step (World.grownBy_alloc Y1 _ none) (fun j e => by cases e), heap_past _ _ _ _ (row_lt hH.2.2.1) hH.2.2.1, heap_past _ _ _ _ (row_lt hH.2.2.2) hH.2.2.2⟩
        replace LB := heap_past Y1 (.cells (vrow 266 ms.at) 39) _ _ (row_lt LB) LB
        replace O1 := O1.alloc (.cells (vrow 266 ms.at) 39)
        generalize Y1.heap.size = nb at NW ⊢
        generalize Y1.alloc _ = Y2 at NW hH2 LB O1 ⊢
        refine hK.out _ _ hH2 (fun hH => ?_)
        clear hK K hH2
        (try simp only [Act.put, List.setIfInBounds_toArray, List.set_cons_succ, List.set_cons_zero])
        refine wpAnyH_ready (rs := [10]) (by kernel_rfl) (by simp) (AllReadyH.cons rfl (fun K hK => ?_) AllReadyH.nil)
        rw [if_pos (by rfl)]
        refine wpo_append_fits _ (.tmp 13) (.tmp 22) 35 rfl w.heap.size 39 i0 266 Tryd.underlying35 rfl hi hz1 w.heap.size pre.length n _ rfl O1 ⟨nb, 0, none⟩ 1 1 (vrow 266 ms.at).toList rfl (by simp [vrow]) (World.news_of_block NW) (sh_cellsK ms) (by omega) ?_
        intro Y3 hO3 hg3
        have hH2 : Below w.heap.size w Y3 ∧ CkB W0.heap.size bx D Wb Y3 ∧ Y3.heap[Bx]? = some (.cells (vrow 266 sk.at) 39) ∧ Y3.heap[D]? = some (.cells (vrow (n * 266) (stF ss)) 39) := ⟨hH.1.grown hg3 (by have := hH.1.size; omega) (fun q hq => by cases hq; omega), hH.2.1.step hg3 (fun j e => by cases e; exact ⟨by omega, by omega, by omega⟩), (hg3.block Bx (row_lt hH.2.2.1) (by simp; omega)).trans hH.2.2.1, (hg3.block D (row_lt hH.2.2.2) (by simp; omega)).trans hH.2.2.2⟩
        replace LB := (hg3.block lb (row_lt LB) (by simp; omega)).trans LB
        clear hg3
        refine hK.out _ _ hH2 (fun hH => ?_)
        clear hK K hH2
        (try simp only [Act.put, List.setIfInBounds_toArray, List.set_cons_succ, List.set_cons_zero])
        refine wpAnyH_ready (rs := [11]) (by kernel_rfl) (by simp) (AllReadyH.cons rfl (fun K hK => ?_) AllReadyH.nil)
        rw [if_pos (by rfl)]
        unfold Oper.wp
        rw [run_store1 35 (.tmp 3) (.tmp 23) rfl lb 0 (by kernel_rfl) 1 (fun _ => (.slice (some ⟨w.heap.size, 0, none⟩) pre.length n)) (.slice (some ⟨w.heap.size, 0, none⟩) (pre.length + 1) n) (by kernel_rfl) 35 size_stkB LB (by omega) rfl, Oper.upon_skip]
        rw [vrow_over_all]
        have hgr := grown_set (grown_refl Y3 (some lb)) (vrow 1 fun _ => (.slice (some ⟨w.heap.size, 0, none⟩) (pre.length + 1) n))
        have hH2 : Below w.heap.size w (Y3.setRow lb (vrow 1 fun _ => (.slice (some ⟨w.heap.size, 0, none⟩) (pre.length + 1) n))) ∧ CkB W0.heap.size bx D Wb (Y3.setRow lb (vrow 1 fun _ => (.slice (some ⟨w.heap.size, 0, none⟩) (pre.length + 1) n))) ∧ (Y3.setRow lb (vrow 1 fun _ => (.slice (some ⟨w.heap.size, 0, none⟩) (pre.length + 1) n))).heap[Bx]? = some (.cells (vrow 266 sk.at) 39) ∧ (Y3.setRow lb (vrow 1 fun _ => (.slice (some ⟨w.heap.size, 0, none⟩) (pre.length + 1) n))).heap[D]? = some (.cells (vrow (n * 266) (stF ss)) 39) := ⟨Below_setRow hH.1 (show w.heap.size ≤ lb by omega) _, hH.2.1.step hgr (fun j e => by cases e; exact ⟨by omega, by omega, by omega⟩), row_set' (g := lb) (show Bx ≠ lb by omega) hH.2.2.1 _, row_set' (g := lb) (show D ≠ lb by omega) hH.2.2.2 _⟩
        have LB2 := row_set LB (vrow 1 fun _ => (.slice (some ⟨w.heap.size, 0, none⟩) (pre.length + 1) n))
        have O3 := hO3.kept hgr (.inr (by simp [Value.ownBlock]; omega))
        clear hgr
        generalize World.setRow Y3 _ _ = Y4 at hH2 LB2 O3 ⊢
        refine hK.out _ _ hH2 (fun hH => ?_)
        clear hK K hH2
        (try simp only [Act.put, List.setIfInBounds_toArray, List.set_cons_succ, List.set_cons_zero])
        refine wpAnyH_done (by kernel_rfl) ?_ _
        refine ⟨rfl, ?_⟩
        exact ⟨hH.2.1.keep, hH.2.1.kp, hH.2.2.2, by rw [HEL.out]; exact LB2, by rw [HEL.out, HAP.out]; exact O3, hH.1⟩
      · rw [if_pos (by rfl)]
        refine wpo_bsl 35 (.tmp 21) rfl _ rfl 39 (vrow 266 ms.at) (HBS.out _) ?_
        have NW := heap_at Y1 (.cells (vrow 266 ms.at) 39) _ rfl
        have hH2 : Below w.heap.size w (Y1.alloc (.cells (vrow 266 ms.at) 39)) ∧ CkB W0.heap.size bx D Wb (Y1.alloc (.cells (vrow 266 ms.at) 39)) ∧ (Y1.alloc (.cells (vrow 266 ms.at) 39)).heap[Bx]? = some (.cells (vrow 266 sk.at) 39) ∧ (Y1.alloc (.cells (vrow 266 ms.at) 39)).heap[D]? = some (.cells (vrow (n * 266) (stF ss)) 39) := ⟨hH.1.alloc hH.1.size _, hH.2.1.step (World.grownBy_alloc Y1 _ none) (fun j e => by cases e), heap_past _ _ _ _ (row_lt hH.2.2.1) hH.2.2.1, heap_past _ _ _ _ (row_lt hH.2.2.2) hH.2.2.2⟩
        replace LB := heap_past Y1 (.cells (vrow 266 ms.at) 39) _ _ (row_lt LB) LB
        replace O1 := O1.alloc (.cells (vrow 266 ms.at) 39)
        generalize Y1.heap.size = nb at NW ⊢
        generalize Y1.alloc _ = Y2 at NW hH2 LB O1 ⊢
        refine hK.out _ _ hH2 (fun hH => ?_)
        clear hK K hH2
        (try simp only [Act.put, List.setIfInBounds_toArray, List.set_cons_succ, List.set_cons_zero])
        refine wpAnyH_ready (rs := [0]) (by kernel_rfl) (by simp) (AllReadyH.cons rfl (fun K hK => ?_) AllReadyH.nil)
        rw [if_pos (by rfl)]
        unfold Oper.wp
        rw [run_ld1 35 (.tmp 3) rfl lb 0 (by kernel_rfl) 1 (fun _ => (.slice (some ⟨w.heap.size, 0, none⟩) pre.length n)) 35 _ Tryd.underlying35 rfl LB (by omega)]
        refine hK.out _ _ hH (fun hH => ?_)
        clear hK K
        (try simp only [Act.put, List.setIfInBounds_toArray, List.set_cons_succ, List.set_cons_zero])
        refine wpAnyH_ready (rs := [10]) (by kernel_rfl) (by simp) (AllReadyH.cons rfl (fun K hK => ?_) AllReadyH.nil)
        rw [if_pos (by rfl)]
        refine wpo_append_fits _ (.tmp 13) (.tmp 22) 35 rfl w.heap.size 39 i0 266 Tryd.underlying35 rfl hi hz1 w.heap.size pre.length n _ rfl O1 ⟨nb, 0, none⟩ 1 1 (vrow 266 ms.at).toList rfl (by simp [vrow]) (World.news_of_block NW) (sh_cellsK ms) (by omega) ?_
        intro Y3 hO3 hg3
        have hH2 : Below w.heap.size w Y3 ∧ CkB W0.heap.size bx D Wb Y3 ∧ Y3.heap[Bx]? = some (.cells (vrow 266 sk.at) 39) ∧ Y3.heap[D]? = some (.cells (vrow (n * 266) (stF ss)) 39) := ⟨hH.1.grown hg3 (by have := hH.1.size; omega) (fun q hq => by cases hq; omega), hH.2.1.step hg3 (fun j e => by cases e; exact ⟨by omega, by omega, by omega⟩), (hg3.block Bx (row_lt hH.2.2.1) (by simp; omega)).trans hH.2.2.1, (hg3.block D (row_lt hH.2.2.2) (by simp; omega)).trans hH.2.2.2⟩
        replace LB := (hg3.block lb (row_lt LB) (by simp; omega)).trans LB
        clear hg3
        refine hK.out _ _ hH2 (fun hH => ?_)
        clear hK K hH2
        (try simp only [Act.put, List.setIfInBounds_toArray, List.set_cons_succ, List.set_cons_zero])
        refine wpAnyH_ready (rs := [11]) (by kernel_rfl) (by simp) (AllReadyH.cons rfl (fun K hK => ?_) AllReadyH.nil)
        rw [if_pos (by rfl)]
        unfold Oper.wp
        rw [run_store1 35 (.tmp 3) (.tmp 23) rfl lb 0 (by kernel_rfl) 1 (fun _ => (.slice (some ⟨w.heap.size, 0, none⟩) pre.length n)) (.slice (some ⟨w.heap.size, 0, none⟩) (pre.length + 1) n) (by kernel_rfl) 35 size_stkB LB (by omega) rfl, Oper.upon_skip]
        rw [vrow_over_all]
        have hgr := grown_set (grown_refl Y3 (some lb)) (vrow 1 fun _ => (.slice (some ⟨w.heap.size, 0, none⟩) (pre.length + 1) n))
        have hH2 : Below w.heap.size w (Y3.setRow lb (vrow 1 fun _ => (.slice (some ⟨w.heap.size, 0, none⟩) (pre.length + 1) n))) ∧ CkB W0.heap.size bx D Wb (Y3.setRow lb (vrow 1 fun _ => (.slice (some ⟨w.heap.size, 0, none⟩) (pre.length + 1) n))) ∧ (Y3.setRow lb (vrow 1 fun _ => (.slice (some ⟨w.heap.size, 0, none⟩) (pre.length + 1) n))).heap[Bx]? = some (.cells (vrow 266 sk.at) 39) ∧ (Y3.setRow lb (vrow 1 fun _ => (.slice (some ⟨w.heap.size, 0, none⟩) (pre.length + 1) n))).heap[D]? = some (.cells (vrow (n * 266) (stF ss)) 39) := ⟨Below_setRow hH.1 (show w.heap.size ≤ lb by omega) _, hH.2.1.step hgr (fun j e => by cases e; exact ⟨by omega, by omega, by omega⟩), row_set' (g := lb) (show Bx ≠ lb by omega) hH.2.2.1 _, row_set' (g := lb) (show D ≠ lb by omega) hH.2.2.2 _⟩
        have LB2 := row_set LB (vrow 1 fun _ => (.slice (some ⟨w.heap.size, 0, none⟩) (pre.length + 1) n))
        have O3 := hO3.kept hgr (.inr (by simp [Value.ownBlock]; omega))
        clear hgr
        generalize World.setRow Y3 _ _ = Y4 at hH2 LB2 O3 ⊢
        refine hK.out _ _ hH2 (fun hH => ?_)
        clear hK K hH2
        (try simp only [Act.put, List.setIfInBounds_toArray, List.set_cons_succ, List.set_cons_zero])
        refine wpAnyH_done (by kernel_rfl) ?_ _
        refine ⟨rfl, ?_⟩
        exact ⟨hH.2.1.keep, hH.2.1.kp, hH.2.2.2, by rw [HEL.out]; exact LB2, by rw [HEL.out, HAP.out]; exact O3, hH.1⟩
  case done =>
    rintro E W hD ⟨P, LB, O1, hB⟩ hd
    rw [List.length_range] at LB O1
    replace hd := Go.Lib.hid hd; replace hB := Go.Lib.hid hB; replace LB := Go.Lib.hid LB
    clear P c1 P0 LB0 O10 B0
    go_wp2_with (first
      | (with_reducible refine wlAt 24 rfl ?_; refine wpList_load1 rfl 35 (.tmp 3) rfl lb 0 rfl 1 (fun _ => (.slice (some ⟨w.heap.size, 0, none⟩) n n)) _ _ Tryd.underlying35 rfl LB.out (by omega) ?_))
    have hlt := row_lt hd.out
    refine leaveB rfl hd.out (results_tmp rfl _ _ _) ?_
    exact ⟨rfl, O1.kept (grownBy_putObj' W E _) (.inr (by simp [Value.ownBlock]; omega)), below_putB _ hB.out (by omega) hlt⟩
  case stop =>
    rintro E c pre W hD h hd
    exact h.elim
end Go.Proofs.YtfhfiaphdgfmnaaDoor
