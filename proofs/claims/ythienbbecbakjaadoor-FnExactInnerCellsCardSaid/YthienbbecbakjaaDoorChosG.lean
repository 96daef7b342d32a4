import Derived.OwnWalkIn
import Derived.RangeFuncNested
import Derived.RangeFuncLeaves
import Derived.Test.YthienbbecbakjaaDoorPB1
import Derived.Test.YthienbbecbakjaaDoorG1
import Derived.Test.YthienbbecbakjaaDoorCellsN
import Derived.Test.YthienbbecbakjaaDoorVF
import Derived.Test.YthienbbecbakjaaDoorSpots
import Derived.Test.YthienbbecbakjaaDoorDark
namespace Go.Proofs.YthienbbecbakjaaDoor
open Go.RowKit
set_option maxRecDepth 100000
set_option linter.unusedVariables false
set_option linter.unusedSimpArgs false
def fl (pb : Nat → Nat → Bool) (l : List Sp8) : List Sp8 := l.filter fun p => pb p.1.1 p.1.2
theorem fl_app (pb : Nat → Nat → Bool) (l : List Sp8) (p : Sp8) : fl pb (l ++ [p]) = fl pb l ++ (if pb p.1.1 p.1.2 then [p] else []) := by
  unfold fl; rw [List.filter_append]; congr 1; simp [List.filter_cons]
theorem fl_len (pb : Nat → Nat → Bool) (l : List Sp8) : (fl pb l).length ≤ l.length := List.length_filter_le _ _
theorem own_ex {β γ : Type} {B : Nat} {Q : γ → β → World → Prop} (h : ∀ v, OwnFrom B (Q v)) : OwnFrom B (fun s W => ∃ v, Q v s W) := fun s X Y row ⟨v, hv⟩ hg hr => ⟨v, h v s X Y row hv hg hr⟩
theorem own_one {W : World} {base size n : Nat} {t : TypeId} {v : Value} {xs : List Value} (h : W.ownsRow base t size v n xs) : v.oneCell' = true := by
  rcases h.2 with ⟨rfl, _⟩ | ⟨g, cap, cur, rfl, _⟩ <;> rfl
theorem own_rowDC {β : Type} {B b : Nat} {o : β → Obj} (hb : b < B) : OwnFrom B (fun (s : β) W => W.heap[b]? = some (o s)) := fun _ W W' row hs hg hr =>
  (hg.block b (row_lt hs) (fun e => by have := (hr b e.symm).1; omega)).trans hs
theorem own_ownsRowC {β : Type} {B base size : Nat} {t : TypeId} (v : β → Value) (n : β → Nat) (xs : β → List Value) : OwnFrom B (fun (s : β) W => W.ownsRow base t size (v s) (n s) (xs s)) := fun s W W' row hs hg hr => by
  refine hs.kept hg ?_
  rcases hs.2 with ⟨hv, _⟩ | ⟨g, cap, cur, hv, _, hgb, _⟩
  · exact .inl (by rw [hv]; rfl)
  · refine .inr fun e => ?_
    rw [hv] at e
    obtain ⟨_, o, ho, hc⟩ := hr g e.symm
    rw [hgb] at ho
    cases ho
    simp [Obj.isCells] at hc
theorem own_mono {W : World} {base base' size n : Nat} {t : TypeId} {v : Value} {xs : List Value} (hb : base' ≤ base) (h : W.ownsRow base t size v n xs) : W.ownsRow base' t size v n xs :=
  ⟨h.1, h.2.imp id (fun ⟨g, cap, cur, hv, hg, r⟩ => ⟨g, cap, cur, hv, Nat.le_trans hb hg, r⟩)⟩
theorem own_put {W : World} {base size n D : Nat} {t : TypeId} {v : Value} {xs : List Value} {q : Option (List Deferred)} {x : Obj} (hs : W.ownsRow base t size v n xs) (hd : W.heap[D]? = some (.deferred q)) : (W.putObj D x).ownsRow base t size v n xs := by
  refine hs.kept (grownBy_putObj' W D x) ?_
  rcases hs.2 with ⟨hv, _⟩ | ⟨g, cap, cur, hv, _, hgb, _⟩
  · exact .inl (by rw [hv]; rfl)
  · refine .inr fun e => ?_
    rw [hv] at e
    cases e
    rw [hgb] at hd
    cases hd
theorem keeps_own {W W' : World} {B base size n : Nat} {t : TypeId} {v : Value} {xs : List Value} (h : W.ownsRow base t size v n xs) (hg : W.grownBy W' v.ownBlock) : KeepsFrom B W W' := by
  rcases h.2 with ⟨hv, _⟩ | ⟨g, cap, cur, hv, _, hgb, _⟩
  · subst hv; exact KeepsFrom.of_grownBy hg (fun j e => by cases e)
  · subst hv; exact keeps_grown hgb hg
theorem CkB.stepK {N b1 b2 : Nat} {X Y Z : World} (h : CkB N b1 b2 X Y) (hk : KeepsFrom N Y Z) (hp : Kp2 b1 b2 Y Z) : CkB N b1 b2 X Z :=
  ⟨h.keep.trans hk, h.kp.t hp, Nat.lt_of_lt_of_le h.s1 hk.size, Nat.lt_of_lt_of_le h.s2 hk.size⟩
theorem size_sltC : (Tryd.prog.info? 34).map (·.size) = some 1 := by kernel_rfl
theorem zero_sltC : ∀ w, (zeroValue 34).run Tryd.prog w = .ok (.slice none 0 0) w := fun _ => by kernel_rfl
attribute [local go_sem] Oper.semAt_some
set_option maxRecDepth 100000 in
set_option maxHeartbeats 8000000 in
theorem spotsT_any (a c : Nat) (pb : Nat → Nat → Bool) (F : FuncId) (lb : Array Value) (w : World) (ha : a ≤ 8) (hc : c ≤ 8)
    (hF : ∀ (xs : Array Value) (w : World), (callFunc F xs).run Tryd.prog w = .ok (.enter F xs) w) 
    (hC : ∀ x y W, x < a → y < c → Below w.heap.size w W → Calls Tryd.prog F (#[.agg (vrow 2 (spAt x y))] ++ lb) W fun e w' => e = .returned (.bool (pb x y)) ∧ Below W.heap.size W w') :
    Calls Tryd.prog 56 #[.int .i8 a, .int .i8 c, .func (.func F) #[] lb] w fun e w' => ∃ v, e = .returned v ∧ w'.ownsRow w.heap.size 61 2 v (fl pb (cellsL a c)).length (vals (fl pb (cellsL a c))) ∧ Below w.heap.size w w' := by
  obtain ⟨i0, hi, hz0, hz1, hz2⟩ := info_parts info_spot
  have zs := zero_spot
  have z1 := zero_sltC
  have HC := Go.Lib.hid hC
  have HF := Go.Lib.hid hF
  clear hC hF
  have hB : Hid (Below w.heap.size w ((w.alloc (.cells #[.func (.func F) #[] lb] 71)).alloc (.cells #[.slice none 0 0] 34))) := Go.Lib.hid (((Below.refl w.heap.size w).alloc (by simp <;> omega) _).alloc (by simp <;> omega) _)
  have FN : Hid (((w.alloc (.cells #[.func (.func F) #[] lb] 71)).alloc (.cells #[.slice none 0 0] 34)).heap[w.heap.size]? = some (.cells (vrow 1 fun _ => .func (.func F) #[] lb) 71)) := heap_past _ _ _ _ (by simp <;> omega) (heap_at _ _ _ (by simp))
  have LB : Hid (((w.alloc (.cells #[.func (.func F) #[] lb] 71)).alloc (.cells #[.slice none 0 0] 34)).heap[w.heap.size + 1]? = some (.cells (vrow 1 fun _ => .slice none 0 0) 34)) := heap_at _ _ _ (by simp)
  refine (callsIn_wide (n := 9)).1 ?_
  refine callsIn_of_wp_marks Tryd.func56 rfl trivial ?_ rfl
  simp only [Tryd.ntmps56, List.size_toArray, List.length_cons, List.length_nil, Nat.reduceAdd, Nat.reduceSub, Array.replicate_succ, Array.replicate_zero, List.push_toArray, List.append_toArray, List.nil_append, List.cons_append]
  refine wpIn_wide.2 ?_
  go_wp2_with (first
    | go_skip
    | (go_at_call 61; refine (cells_any _ _ _).mono ?_; rintro e w5 ⟨rfl, rfl⟩))
  generalize hWn : ((w.alloc (.cells #[.func (.func F) #[] lb] 71)).alloc (.cells #[.slice none 0 0] 34)) = Wn at hB FN LB ⊢
  have hws : Wn.heap.size = w.heap.size + 1 + 1 := by rw [← hWn]; simp
  clear hWn
  have c1 := heap_at (Wn.alloc (.cells #[.int .i8 a] 22)) (.cells #[.int .i8 c] 22) (Wn.heap.size + 1) (by simp)
  have c2 := heap_past (Wn.alloc (.cells #[.int .i8 a] 22)) (.cells #[.int .i8 c] 22) _ Wn.heap.size (by simp) (heap_at Wn (.cells #[.int .i8 a] 22) _ rfl)
  have hB1 : Below Wn.heap.size Wn ((Wn.alloc (.cells #[.int .i8 a] 22)).alloc (.cells #[.int .i8 c] 22)) := ((Below.refl _ _).alloc (Nat.le_refl _) _).alloc (by simp) _
  have hs0 : ((Wn.alloc (.cells #[.int .i8 a] 22)).alloc (.cells #[.int .i8 c] 22)).heap.size = w.heap.size + 4 := by simp; omega
  obtain ⟨W0, hW0⟩ : ∃ W0, (Wn.alloc (.cells #[.int .i8 a] 22)).alloc (.cells #[.int .i8 c] 22) = W0 := ⟨_, rfl⟩
  rw [hW0] at c1 c2 hB1 hs0 ⊢
  clear hW0
  rw [hws] at c1 c2
  try rw [hws]
  replace FN := row_next hB1 FN.out; replace LB := row_next hB1 LB.out; replace hB := below_next hB.out hB1
  clear hB1 hws
  refine wp_cellsN (d := 8) (w.heap.size + 1 + 1 + 1) (w.heap.size + 1 + 1) a c ha hc rfl c1 c2
    (fun pre W => ∃ v, W.heap[w.heap.size + 1]? = some (.cells (vrow 1 fun _ => v) 34) ∧ W.ownsRow W0.heap.size 61 2 v (fl pb (pre.map toSp)).length (vals (fl pb (pre.map toSp))) ∧ W.heap[w.heap.size]? = some (.cells (vrow 1 fun _ => .func (.func F) #[] lb) 71) ∧ Below w.heap.size w W)
    (fun _ _ _ => False)
    (own_ex fun v => OwnFrom.and (own_row (by omega)) (OwnFrom.and (own_ownsRowC (fun _ => v) (fun pre : List (SpN a c) => (fl pb (pre.map toSp)).length) (fun pre => vals (fl pb (pre.map toSp)))) (OwnFrom.and (own_row (by omega)) (ownFrom_below (Nat.le_refl _) (by omega)))))
    (fun c => own_pure _)
    ⟨_, LB, World.ownsRow_nil _ _ _ _, FN, hB⟩ ?assign ?body ?done ?stop
  case assign =>
    intro l x W K hK
    simp only [List.setIfInBounds_toArray, List.set_cons_succ, List.set_cons_zero] at hK ⊢
    gi_wp2_with (refine wpListIn_storeall rfl 61 (.tmp 8) (.tmp 12) rfl _ rfl 2 (spAt 0 0) (spAt x.1.1 x.1.2) rfl 61 size_spot (heap_at _ _ _ rfl) (fun i _ => spAt_one _ _ i) ?_; rw [setRow_at _ _ _ _ _ rfl])
    exact hK
  case body =>
    rintro l pre ⟨⟨x, y⟩, hx, hy⟩ Wb W Bx hK hBx R hsz ⟨v, LB, O, FN, hB⟩ hlen
    simp only [List.setIfInBounds_toArray, List.set_cons_succ, List.set_cons_zero] at R ⊢
    replace hx : x < a := hx
    replace hy : y < c := hy
    have hx8 : x < 8 := by omega
    have hy8 : y < 8 := by omega
    have hts : toSp (⟨(x, y), hx, hy⟩ : SpN a c) = ⟨(x, y), hx8, hy8⟩ := Subtype.ext (toSp_val ha hc _)
    have hap : fl pb ((pre ++ [(⟨(x, y), hx, hy⟩ : SpN a c)]).map toSp) = fl pb (pre.map toSp) ++ (if pb x y then [⟨(x, y), hx8, hy8⟩] else []) := by
      rw [List.map_append, List.map_cons, List.map_nil, fl_app, hts]
    have hle : (fl pb (pre.map toSp)).length ≤ pre.length := by
      have := fl_len pb (pre.map toSp); rw [List.length_map] at this; exact this
    have hac : a * c ≤ 64 := Nat.mul_le_mul ha hc
    clear hts
    generalize fl pb (pre.map toSp) = L at *
    have hrl := row_lt R
    have hCk := Go.Lib.hid ((CkB.start (N := W0.heap.size) (b1 := w.heap.size + 1 + 1 + 1) (b2 := w.heap.size + 1 + 1) (X := Wb) (by omega) (by omega)).step (grown_next (grown_refl Wb none) hK) (fun j e => by cases e))
    replace R := Go.Lib.hid R; replace FN := Go.Lib.hid FN; replace LB := Go.Lib.hid LB; replace O := Go.Lib.hid O; replace hB := Go.Lib.hid hB
    have HAP := Go.Lib.hid hap
    obtain ⟨Wc, hWc⟩ : ∃ Wc : World, Wc = W := ⟨_, rfl⟩
    rw [← hWc] at R FN LB O hB hCk hrl ⊢
    clear hWc hK hap
    gi_wp2_with (first
      | ((with_reducible refine wlAtB 13 rfl ?_); refine loadoneB rfl 71 (.tmp 5) rfl (w.heap.size) 0 rfl 1 (fun _ => .func (.func F) #[] lb) 71 _ Tryd.underlying71 rfl FN.out (by omega) ?_)
      | ((with_reducible refine wlAtB 14 rfl ?_); refine loadmidB rfl 61 (.tmp 8) rfl Bx 0 rfl 2 2 (spAt x y) 61 _ Tryd.underlying61 rfl size_spot R.out (by omega) ?_; simp only [Nat.zero_add]))
    rw [HF.out]
    simp only [Oper.uponIn]
    refine ⟨trivial, fun _ => by decide, ?_⟩
    refine (callsFW (ro := some _) (HC.out x y _ hx hy hB.out)).mono ?_
    rintro e w1 ⟨rfl, hb⟩
    simp only [Act.put, List.setIfInBounds_toArray, List.set_cons_succ, List.set_cons_zero]
    replace hCk := Go.Lib.hid (hCk.out.step (grown_next (grown_refl Wc none) hb) (fun j e => by cases e))
    replace O := Go.Lib.hid (O.out.kept (grown_next (grown_refl Wc none) hb) (by cases hv : Value.ownBlock _ <;> simp))
    replace R := Go.Lib.hid (row_next hb R.out); replace FN := Go.Lib.hid (row_next hb FN.out); replace LB := Go.Lib.hid (row_next hb LB.out); replace hB := Go.Lib.hid (below_next hB.out hb)
    have hrl2 := hb.size
    clear hb
    cases hpb : pb x y
    · have HAP2 := HAP.out
      rw [hpb, if_neg (by simp), List.append_nil] at HAP2
      replace HAP2 := Go.Lib.hid HAP2
      clear hpb
      gi_wp2
      exact ⟨hCk.out.keep, hCk.out.kp, v, LB.out, by rw [HAP2.out]; exact O.out, FN.out, hB.out⟩
    · have HAP2 := HAP.out
      rw [hpb, if_pos rfl] at HAP2
      replace HAP2 := Go.Lib.hid HAP2
      clear hpb
      gi_wp2_with (first
        | ((with_reducible refine wlAtB 16 rfl ?_); refine loadoneB rfl 34 (.tmp 7) rfl (w.heap.size + 1) 0 rfl 1 (fun _ => v) 34 _ Tryd.underlying34 rfl LB.out (by omega) ?_)
        | ((with_reducible refine wlAtB 17 rfl ?_); refine loadmidB rfl 61 (.tmp 8) rfl Bx 0 rfl 2 2 (spAt x y) 61 _ Tryd.underlying61 rfl size_spot R.out (by omega) ?_; simp only [Nat.zero_add]; rw [show (vrow 2 fun i => spAt x y i) = #[.int .i8 x, .int .i8 y] from rfl])
        | ((with_reducible refine wlAtB 19 rfl ?_); refine wpListIn_append_own _ rfl (.tmp 16) (.tmp 18) 34 rfl W0.heap.size 61 i0 (.agg #[.int .i8 0, .int .i8 0]) 2 2 Tryd.underlying34 hi hz0 hz1 hz2 rfl (by decide) v _ _ rfl (O.out.alloc _) ⟨w1.heap.size, 0, none⟩ 1 1 [.int .i8 x, .int .i8 y] rfl rfl (World.news_of_block (heap_at _ _ _ rfl)) (by simp [Value.oneCell']) (by simp only [maxLen]; omega) (by omega) (by simp; omega) ?_; intro v' w3 hO3 hg3 _; have hov := O.out.lt; have m2 := row_lt LB.out; have m3 := row_lt FN.out; replace LB := Go.Lib.hid ((hg3.block _ (by simp; omega) (fun e => by have := (hov _ e.symm).1; omega)).trans (heap_past _ _ _ _ m2 LB.out)); replace FN := Go.Lib.hid ((hg3.block _ (by simp; omega) (fun e => by have := (hov _ e.symm).1; omega)).trans (heap_past _ _ _ _ m3 FN.out)); replace hB := Go.Lib.hid ((hB.out.alloc hB.out.size _).grown hg3 (by simp; have := hB.out.size; omega) (fun q hq => by have := (hov q hq).1; omega)); have hkk := keeps_own (B := W0.heap.size) (O.out.alloc _) hg3; have hck1 := hCk.out.step (World.grownBy_alloc w1 (.cells #[.int .i8 x, .int .i8 y] 61) none) (fun j e => by cases e); have s1 := hck1.s1; have s2 := hck1.s2; have hp1 := hg3.block _ s1 (fun e => by have := (hov _ e.symm).1; omega); have hp2 := hg3.block _ s2 (fun e => by have := (hov _ e.symm).1; omega); have hkp : Kp2 (w.heap.size + 1 + 1 + 1) (w.heap.size + 1 + 1) (w1.alloc (.cells #[.int .i8 x, .int .i8 y] 61)) w3 := And.intro hp1 hp2; have hck2 := CkB.stepK hck1 hkk hkp; have hCk3 := Go.Lib.hid hck2; clear hg3 hkk hov m2 m3 hck1 s1 s2 hp1 hp2 hkp hck2)
        | ((with_reducible refine wlOpB (.store 34 (.tmp 7) (.tmp 19)) rfl ?_); refine wpListIn_store1 rfl 34 (.tmp 7) (.tmp 19) rfl (w.heap.size + 1) 0 rfl 1 (fun _ => v) v' rfl 34 size_sltC LB.out (by omega) (own_one hO3) ?_; rw [vrow_over_all]; have hgr := grown_set (grown_refl w3 (some (w.heap.size + 1))) (vrow 1 fun _ => v'); have hov3 := hO3.lt; replace FN := Go.Lib.hid (row_set' (g := w.heap.size + 1) (by omega) FN.out (vrow 1 fun _ => v')); replace LB := Go.Lib.hid (row_set LB.out (vrow 1 fun _ => v')); have O3 := Go.Lib.hid (hO3.kept hgr (.inr (fun e => by have := (hov3 _ e).1; omega))); replace hCk3 := Go.Lib.hid (hCk3.out.step hgr (fun j e => by cases e; exact ⟨by omega, by omega, by omega⟩)); replace hB := Go.Lib.hid (Below_setRow hB.out (show w.heap.size ≤ w.heap.size + 1 by omega) (vrow 1 fun _ => v')); clear hgr hO3))
      exact ⟨hCk3.out.keep, hCk3.out.kp, v', LB.out, by rw [HAP2.out, List.length_append, vals_app, vals_one]; exact O3.out, FN.out, hB.out⟩
  case done =>
    rintro D W hD ⟨v, LB, O, FN, hB⟩ hd
    rw [toSp_cells a c ha c (Nat.le_refl _) hc] at O
    replace hd := Go.Lib.hid hd; replace hB := Go.Lib.hid hB; replace LB := Go.Lib.hid LB
    clear FN
    go_wp2_with (first
      | ((with_reducible refine wlAt 20 rfl ?_); refine wpList_load1 rfl 34 (.tmp 7) rfl (w.heap.size + 1) 0 rfl 1 (fun _ => v) _ _ Tryd.underlying34 rfl LB.out (by omega) ?_))
    have hlt := row_lt hd.out
    refine leaveB rfl hd.out (results_tmp rfl _ _ _) ?_
    exact ⟨v, rfl, own_put (own_mono (by omega) O) hd.out, below_putB _ hB.out (by omega) hlt⟩
  case stop =>
    rintro D c pre W hD h hd
    exact h.elim
theorem chosen_any (s : Sh) (a c : Nat) (pb : Nat → Nat → Bool) (F : FuncId) (lb : Array Value) (w : World) (ea : s.wide = a) (ec : s.high = c) (ha : a ≤ 8) (hc : c ≤ 8)
    (hF : ∀ (xs : Array Value) (w : World), (callFunc F xs).run Tryd.prog w = .ok (.enter F xs) w) 
    (hC : ∀ x y W, x < a → y < c → Below w.heap.size w W → Calls Tryd.prog F (#[.agg (vrow 2 (spAt x y))] ++ lb) W fun e w' => e = .returned (.bool (pb x y)) ∧ Below W.heap.size W w') :
    Calls Tryd.prog 36 #[.agg s.row, .func (.func F) #[] lb] w fun e w' => ∃ v, e = .returned v ∧ w'.ownsRow w.heap.size 61 2 v (fl pb (cellsL a c)).length (vals (fl pb (cellsL a c))) ∧ Below w.heap.size w w' := by
  have HS : Hid (∀ W, Below w.heap.size w W → Calls Tryd.prog 56 #[.int .i8 a, .int .i8 c, .func (.func F) #[] lb] W fun e w' => ∃ v, e = .returned v ∧ w'.ownsRow W.heap.size 61 2 v (fl pb (cellsL a c)).length (vals (fl pb (cellsL a c))) ∧ Below W.heap.size W w') :=
    Go.Lib.hid fun W hW => spotsT_any a c pb F lb W ha hc hF fun x y W' hx hy hb => hC x y W' hx hy (hW.trans (hb.mono hW.size))
  clear hC
  have hB : Hid (Below w.heap.size w (w.alloc (.cells (vrow 266 s.at) 37))) := Go.Lib.hid ((Below.refl w.heap.size w).alloc (by simp <;> omega) _)
  have P : Hid ((w.alloc (.cells (vrow 266 s.at) 37)).heap[w.heap.size]? = some (.cells (vrow 266 s.at) 37)) := heap_at _ _ _ rfl
  go_enter Tryd.func36, Tryd.ntmps36
  go_wp2_with (first
    | go_skip
    | ((with_reducible refine wlAt 6 rfl ?_); refine wpList_load1 rfl 22 (.tmp 5) rfl (w.heap.size) 0 rfl 266 s.at _ _ Tryd.underlying22 rfl P.out (by omega) ?_; rw [Sh.at_0, ea])
    | ((with_reducible refine wlAt 8 rfl ?_); refine wpList_load1 rfl 22 (.tmp 7) rfl (w.heap.size) 1 rfl 266 s.at _ _ Tryd.underlying22 rfl P.out (by omega) ?_; rw [Sh.at_1, ec])
    | (go_at_call 56; (refine (HS.out _ hB.out).mono ?_; rintro e w1 ⟨v, rfl, hO, hb⟩; have hsz := hB.out.size; replace hB := Go.Lib.hid (below_next hB.out hb); have O := Go.Lib.hid hO; clear hb hO)))
  go_ret
  exact ⟨v, rfl, own_mono hsz O.out, hB.out⟩
end Go.Proofs.YthienbbecbakjaaDoor
