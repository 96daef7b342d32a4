import Derived.Test.YthienbbecbakjaaDoorChosG
import Derived.Deep.RegionHeld3
import Derived.Test.YthienbbecbakjaaDoorVC
import Derived.Test.YthienbbecbakjaaDoorVB
import Derived.Test.YthienbbecbakjaaDoorGround
import Derived.Test.YthienbbecbakjaaDoorVA
import Derived.Test.YthienbbecbakjaaDoorPB1
import Derived.Test.YthienbbecbakjaaDoorImplV
namespace Go.Proofs.YthienbbecbakjaaDoor
open Go.RowKit
set_option maxRecDepth 100000
set_option linter.unusedVariables false
set_option linter.unusedSimpArgs false
attribute [local go_sem] Oper.semAt_some
set_option maxRecDepth 100000 in
set_option maxHeartbeats 8000000 in
theorem spotsF_any (a c : Nat) (pb : Nat → Nat → Bool) (F : FuncId) (fs lb : Array Value) (w : World) (ha : a ≤ 8) (hc : c ≤ 8)
    (hF : ∀ (xs : Array Value) (w : World), (callFunc F xs).run Tryd.prog w = .ok (.enter F xs) w) 
    (hC : ∀ x y W, x < a → y < c → Below w.heap.size w W → Calls Tryd.prog F (fs ++ #[.agg (vrow 2 (spAt x y))] ++ lb) W fun e w' => e = .returned (.bool (pb x y)) ∧ Below W.heap.size W w') :
    Calls Tryd.prog 56 #[.int .i8 a, .int .i8 c, .func (.func F) fs lb] w fun e w' => ∃ v, e = .returned v ∧ w'.ownsRow w.heap.size 61 2 v (fl pb (cellsL a c)).length (vals (fl pb (cellsL a c))) ∧ Below w.heap.size w w' := by
  obtain ⟨i0, hi, hz0, hz1, hz2⟩ := info_parts info_spot
  have zs := zero_spot
  have z1 := zero_sltC
  have HC := Go.Lib.hid hC
  have HF := Go.Lib.hid hF
  clear hC hF
  have hB : Hid (Below w.heap.size w ((w.alloc (.cells #[.func (.func F) fs lb] 71)).alloc (.cells #[.slice none 0 0] 34))) := Go.Lib.hid (((Below.refl w.heap.size w).alloc (by simp <;> omega) _).alloc (by simp <;> omega) _)
  have FN : Hid (((w.alloc (.cells #[.func (.func F) fs lb] 71)).alloc (.cells #[.slice none 0 0] 34)).heap[w.heap.size]? = some (.cells (vrow 1 fun _ => .func (.func F) fs lb) 71)) := heap_past _ _ _ _ (by simp <;> omega) (heap_at _ _ _ (by simp))
  have LB : Hid (((w.alloc (.cells #[.func (.func F) fs lb] 71)).alloc (.cells #[.slice none 0 0] 34)).heap[w.heap.size + 1]? = some (.cells (vrow 1 fun _ => .slice none 0 0) 34)) := heap_at _ _ _ (by simp)
  refine (callsIn_wide (n := 9)).1 ?_
  refine callsIn_of_wp_marks Tryd.func56 rfl trivial ?_ rfl
  simp only [Tryd.ntmps56, List.size_toArray, List.length_cons, List.length_nil, Nat.reduceAdd, Nat.reduceSub, Array.replicate_succ, Array.replicate_zero, List.push_toArray, List.append_toArray, List.nil_append, List.cons_append]
  refine wpIn_wide.2 ?_
  go_wp2_with (first
    | go_skip
    | (go_at_call 61; refine (cells_any _ _ _).mono ?_; rintro e w5 ⟨rfl, rfl⟩))
  generalize hWn : ((w.alloc (.cells #[.func (.func F) fs lb] 71)).alloc (.cells #[.slice none 0 0] 34)) = Wn at hB FN LB ⊢
  have hws : Wn.heap.size = w.heap.size + 1 + 1 := by rw [← hWn]; simp
  clear hWn
  have c1 := heap_at (Wn.alloc (.cells #[.int .i8 a] 22)) (.cells #[.int .i8 c] 22) (Wn.heap.size + 1) (by simp)
  have c2 := heap_past (Wn.alloc (.cells #[.int .i8 a] 22)) (.cells #[.int .i8 c] 22) _ Wn.heap.size (by simp) (heap_at Wn (.cells #[.int .i8 a] 22) _ rfl)
  have hB1 : Below Wn.heap.size Wn ((Wn.alloc (.cells #[.int .i8 a] 22)).alloc (.cells #[.int .i8 c] 22)) := ((Below.refl _ _).alloc (Nat.le_refl _) _).alloc (by simp) _
  have hs0 : ((Wn.alloc (.cells #[.int .i8 a] 22)).alloc (.cells #[.int .i8 c] 22)).heap.size = w.heap.size + 4 := by simp; omega
  obtain ⟨W0, hW0⟩ : ∃ W0, (Wn.alloc (.cells #[.int .i8 a] 22)).alloc (.cells #[.int .i8 c] 22) = W0 := ⟨_, rfl⟩
  rw [hW0] at c1 c2 hB1 hs0 ⊢
  clear hW0
  rw [hws] at c1 c2
  try rw [hws]
  replace FN := row_next hB1 FN.out; replace LB := row_next hB1 LB.out; replace hB := below_next hB.out hB1
  clear hB1 hws
  refine wp_cellsN (d := 8) (w.heap.size + 1 + 1 + 1) (w.heap.size + 1 + 1) a c ha hc rfl c1 c2
    (fun pre W => ∃ v, W.heap[w.heap.size + 1]? = some (.cells (vrow 1 fun _ => v) 34) ∧ W.ownsRow W0.heap.size 61 2 v (fl pb (pre.map toSp)).length (vals (fl pb (pre.map toSp))) ∧ W.heap[w.heap.size]? = some (.cells (vrow 1 fun _ => .func (.func F) fs lb) 71) ∧ Below w.heap.size w W)
    (fun _ _ _ => False)
    (own_ex fun v => OwnFrom.and (own_row (by omega)) (OwnFrom.and (own_ownsRowC (fun _ => v) (fun pre : List (SpN a c) => (fl pb (pre.map toSp)).length) (fun pre => vals (fl pb (pre.map toSp)))) (OwnFrom.and (own_row (by omega)) (ownFrom_below (Nat.le_refl _) (by omega)))))
    (fun c => own_pure _)
    ⟨_, LB, World.ownsRow_nil _ _ _ _, FN, hB⟩ ?assign ?body ?done ?stop
  case assign =>
    intro l x W K hK
    simp only [List.setIfInBounds_toArray, List.set_cons_succ, List.set_cons_zero] at hK ⊢
    gi_wp2_with (refine wpListIn_storeall rfl 61 (.tmp 8) (.tmp 12) rfl _ rfl 2 (spAt 0 0) (spAt x.1.1 x.1.2) rfl 61 size_spot (heap_at _ _ _ rfl) (fun i _ => spAt_one _ _ i) ?_; rw [setRow_at _ _ _ _ _ rfl])
    exact hK
  case body =>
    rintro l pre ⟨⟨x, y⟩, hx, hy⟩ Wb W Bx hK hBx R hsz ⟨v, LB, O, FN, hB⟩ hlen
    simp only [List.setIfInBounds_toArray, List.set_cons_succ, List.set_cons_zero] at R ⊢
    replace hx : x < a := hx
    replace hy : y < c := hy
    have hx8 : x < 8 := by omega
    have hy8 : y < 8 := by omega
    have hts : toSp (⟨(x, y), hx, hy⟩ : SpN a c) = ⟨(x, y), hx8, hy8⟩ := Subtype.ext (toSp_val ha hc _)
    have hap : fl pb ((pre ++ [(⟨(x, y), hx, hy⟩ : SpN a c)]).map toSp) = fl pb (pre.map toSp) ++ (if pb x y then [⟨(x, y), hx8, hy8⟩] else []) := by
      rw [List.map_append, List.map_cons, List.map_nil, fl_app, hts]
    have hle : (fl pb (pre.map toSp)).length ≤ pre.length := by
      have := fl_len pb (pre.map toSp); rw [List.length_map] at this; exact this
    have hac : a * c ≤ 64 := Nat.mul_le_mul ha hc
    clear hts
    generalize fl pb (pre.map toSp) = L at *
    have hrl := row_lt R
    have hCk := Go.Lib.hid ((CkB.start (N := W0.heap.size) (b1 := w.heap.size + 1 + 1 + 1) (b2 := w.heap.size + 1 + 1) (X := Wb) (by omega) (by omega)).step (grown_next (grown_refl Wb none) hK) (fun j e => by cases e))
    replace R := Go.Lib.hid R; replace FN := Go.Lib.hid FN; replace LB := Go.Lib.hid LB; replace O := Go.Lib.hid O; replace hB := Go.Lib.hid hB
    have HAP := Go.Lib.hid hap
    obtain ⟨Wc, hWc⟩ : ∃ Wc : World, Wc = W := ⟨_, rfl⟩
    rw [← hWc] at R FN LB O hB hCk hrl ⊢
    clear hWc hK hap
    gi_wp2_with (first
      | ((with_reducible refine wlAtB 13 rfl ?_); refine loadoneB rfl 71 (.tmp 5) rfl (w.heap.size) 0 rfl 1 (fun _ => .func (.func F) fs lb) 71 _ Tryd.underlying71 rfl FN.out (by omega) ?_)
      | ((with_reducible refine wlAtB 14 rfl ?_); refine loadmidB rfl 61 (.tmp 8) rfl Bx 0 rfl 2 2 (spAt x y) 61 _ Tryd.underlying61 rfl size_spot R.out (by omega) ?_; simp only [Nat.zero_add]))
    rw [HF.out]
    simp only [Oper.uponIn]
    refine ⟨trivial, fun _ => by decide, ?_⟩
    refine (callsFW (ro := some _) (HC.out x y _ hx hy hB.out)).mono ?_
    rintro e w1 ⟨rfl, hb⟩
    simp only [Act.put, List.setIfInBounds_toArray, List.set_cons_succ, List.set_cons_zero]
    replace hCk := Go.Lib.hid (hCk.out.step (grown_next (grown_refl Wc none) hb) (fun j e => by cases e))
    replace O := Go.Lib.hid (O.out.kept (grown_next (grown_refl Wc none) hb) (by cases hv : Value.ownBlock _ <;> simp))
    replace R := Go.Lib.hid (row_next hb R.out); replace FN := Go.Lib.hid (row_next hb FN.out); replace LB := Go.Lib.hid (row_next hb LB.out); replace hB := Go.Lib.hid (below_next hB.out hb)
    have hrl2 := hb.size
    clear hb
    cases hpb : pb x y
    · have HAP2 := HAP.out
      rw [hpb, if_neg (by simp), List.append_nil] at HAP2
      replace HAP2 := Go.Lib.hid HAP2
      clear hpb
      gi_wp2
      exact ⟨hCk.out.keep, hCk.out.kp, v, LB.out, by rw [HAP2.out]; exact O.out, FN.out, hB.out⟩
    · have HAP2 := HAP.out
      rw [hpb, if_pos rfl] at HAP2
      replace HAP2 := Go.Lib.hid HAP2
      clear hpb
      gi_wp2_with (first
        | ((with_reducible refine wlAtB 16 rfl ?_); refine loadoneB rfl 34 (.tmp 7) rfl (w.heap.size + 1) 0 rfl 1 (fun _ => v) 34 _ Tryd.underlying34 rfl LB.out (by omega) ?_)
        | ((with_reducible refine wlAtB 17 rfl ?_); refine loadmidB rfl 61 (.tmp 8) rfl Bx 0 rfl 2 2 (spAt x y) 61 _ Tryd.underlying61 rfl size_spot R.out (by omega) ?_; simp only [Nat.zero_add]; rw [show (vrow 2 fun i => spAt x y i) = #[.int .i8 x, .int .i8 y] from rfl])
        | ((with_reducible refine wlAtB 19 rfl ?_); refine wpListIn_append_own _ rfl (.tmp 16) (.tmp 18) 34 rfl W0.heap.size 61 i0 (.agg #[.int .i8 0, .int .i8 0]) 2 2 Tryd.underlying34 hi hz0 hz1 hz2 rfl (by decide) v _ _ rfl (O.out.alloc _) ⟨w1.heap.size, 0, none⟩ 1 1 [.int .i8 x, .int .i8 y] rfl rfl (World.news_of_block (heap_at _ _ _ rfl)) (by simp [Value.oneCell']) (by simp only [maxLen]; omega) (by omega) (by simp; omega) ?_; intro v' w3 hO3 hg3 _; have hov := O.out.lt; have m2 := row_lt LB.out; have m3 := row_lt FN.out; replace LB := Go.Lib.hid ((hg3.block _ (by simp; omega) (fun e => by have := (hov _ e.symm).1; omega)).trans (heap_past _ _ _ _ m2 LB.out)); replace FN := Go.Lib.hid ((hg3.block _ (by simp; omega) (fun e => by have := (hov _ e.symm).1; omega)).trans (heap_past _ _ _ _ m3 FN.out)); replace hB := Go.Lib.hid ((hB.out.alloc hB.out.size _).grown hg3 (by simp; have := hB.out.size; omega) (fun q hq => by have := (hov q hq).1; omega)); have hkk := keeps_own (B := W0.heap.size) (O.out.alloc _) hg3; have hck1 := hCk.out.step (World.grownBy_alloc w1 (.cells #[.int .i8 x, .int .i8 y] 61) none) (fun j e => by cases e); have s1 := hck1.s1; have s2 := hck1.s2; have hp1 := hg3.block _ s1 (fun e => by have := (hov _ e.symm).1; omega); have hp2 := hg3.block _ s2 (fun e => by have := (hov _ e.symm).1; omega); have hkp : Kp2 (w.heap.size + 1 + 1 + 1) (w.heap.size + 1 + 1) (w1.alloc (.cells #[.int .i8 x, .int .i8 y] 61)) w3 := And.intro hp1 hp2; have hck2 := CkB.stepK hck1 hkk hkp; have hCk3 := Go.Lib.hid hck2; clear hg3 hkk hov m2 m3 hck1 s1 s2 hp1 hp2 hkp hck2)
        | ((with_reducible refine wlOpB (.store 34 (.tmp 7) (.tmp 19)) rfl ?_); refine wpListIn_store1 rfl 34 (.tmp 7) (.tmp 19) rfl (w.heap.size + 1) 0 rfl 1 (fun _ => v) v' rfl 34 size_sltC LB.out (by omega) (own_one hO3) ?_; rw [vrow_over_all]; have hgr := grown_set (grown_refl w3 (some (w.heap.size + 1))) (vrow 1 fun _ => v'); have hov3 := hO3.lt; replace FN := Go.Lib.hid (row_set' (g := w.heap.size + 1) (by omega) FN.out (vrow 1 fun _ => v')); replace LB := Go.Lib.hid (row_set LB.out (vrow 1 fun _ => v')); have O3 := Go.Lib.hid (hO3.kept hgr (.inr (fun e => by have := (hov3 _ e).1; omega))); replace hCk3 := Go.Lib.hid (hCk3.out.step hgr (fun j e => by cases e; exact ⟨by omega, by omega, by omega⟩)); replace hB := Go.Lib.hid (Below_setRow hB.out (show w.heap.size ≤ w.heap.size + 1 by omega) (vrow 1 fun _ => v')); clear hgr hO3))
      exact ⟨hCk3.out.keep, hCk3.out.kp, v', LB.out, by rw [HAP2.out, List.length_append, vals_app, vals_one]; exact O3.out, FN.out, hB.out⟩
  case done =>
    rintro D W hD ⟨v, LB, O, FN, hB⟩ hd
    rw [toSp_cells a c ha c (Nat.le_refl _) hc] at O
    replace hd := Go.Lib.hid hd; replace hB := Go.Lib.hid hB; replace LB := Go.Lib.hid LB
    clear FN
    go_wp2_with (first
      | ((with_reducible refine wlAt 20 rfl ?_); refine wpList_load1 rfl 34 (.tmp 7) rfl (w.heap.size + 1) 0 rfl 1 (fun _ => v) _ _ Tryd.underlying34 rfl LB.out (by omega) ?_))
    have hlt := row_lt hd.out
    refine leaveB rfl hd.out (results_tmp rfl _ _ _) ?_
    exact ⟨v, rfl, own_put (own_mono (by omega) O) hd.out, below_putB _ hB.out (by omega) hlt⟩
  case stop =>
    rintro D c pre W hD h hd
    exact h.elim
theorem chosenF_any (s : Sh) (a c : Nat) (pb : Nat → Nat → Bool) (F : FuncId) (fs lb : Array Value) (w : World) (ea : s.wide = a) (ec : s.high = c) (ha : a ≤ 8) (hc : c ≤ 8)
    (hF : ∀ (xs : Array Value) (w : World), (callFunc F xs).run Tryd.prog w = .ok (.enter F xs) w) 
    (hC : ∀ x y W, x < a → y < c → Below w.heap.size w W → Calls Tryd.prog F (fs ++ #[.agg (vrow 2 (spAt x y))] ++ lb) W fun e w' => e = .returned (.bool (pb x y)) ∧ Below W.heap.size W w') :
    Calls Tryd.prog 36 #[.agg s.row, .func (.func F) fs lb] w fun e w' => ∃ v, e = .returned v ∧ w'.ownsRow w.heap.size 61 2 v (fl pb (cellsL a c)).length (vals (fl pb (cellsL a c))) ∧ Below w.heap.size w w' := by
  have HS : Hid (∀ W, Below w.heap.size w W → Calls Tryd.prog 56 #[.int .i8 a, .int .i8 c, .func (.func F) fs lb] W fun e w' => ∃ v, e = .returned v ∧ w'.ownsRow W.heap.size 61 2 v (fl pb (cellsL a c)).length (vals (fl pb (cellsL a c))) ∧ Below W.heap.size W w') :=
    Go.Lib.hid fun W hW => spotsF_any a c pb F fs lb W ha hc hF fun x y W' hx hy hb => hC x y W' hx hy (hW.trans (hb.mono hW.size))
  clear hC
  have hB : Hid (Below w.heap.size w (w.alloc (.cells (vrow 266 s.at) 37))) := Go.Lib.hid ((Below.refl w.heap.size w).alloc (by simp <;> omega) _)
  have P : Hid ((w.alloc (.cells (vrow 266 s.at) 37)).heap[w.heap.size]? = some (.cells (vrow 266 s.at) 37)) := heap_at _ _ _ rfl
  go_enter Tryd.func36, Tryd.ntmps36
  go_wp2_with (first
    | go_skip
    | ((with_reducible refine wlAt 6 rfl ?_); refine wpList_load1 rfl 22 (.tmp 5) rfl (w.heap.size) 0 rfl 266 s.at _ _ Tryd.underlying22 rfl P.out (by omega) ?_; rw [Sh.at_0, ea])
    | ((with_reducible refine wlAt 8 rfl ?_); refine wpList_load1 rfl 22 (.tmp 7) rfl (w.heap.size) 1 rfl 266 s.at _ _ Tryd.underlying22 rfl P.out (by omega) ?_; rw [Sh.at_1, ec])
    | (go_at_call 56; (refine (HS.out _ hB.out).mono ?_; rintro e w1 ⟨v, rfl, hO, hb⟩; have hsz := hB.out.size; replace hB := Go.Lib.hid (below_next hB.out hb); have O := Go.Lib.hid hO; clear hb hO)))
  go_ret
  exact ⟨v, rfl, own_mono hsz O.out, hB.out⟩
end Go.Proofs.YthienbbecbakjaaDoor
namespace Go.Proofs.YthienbbecbakjaaDoor
open Go.RowKit
set_option maxRecDepth 100000
set_option linter.unusedVariables false
set_option linter.unusedSimpArgs false
set_option maxHeartbeats 8000000 in
theorem inn_ok (s : Sh) (D n : Nat) (px py : Nat → Int) (a c : Nat) (e : ErrE) (w : World) (hE : Errs e w) (hn : n ≤ 1048576) (ea : s.wide = a) (ec : s.high = c) (ha : a ≤ 8) (hc : c ≤ 8) (hf : s.fit) (ho : okI s = true) (hin : insL s px py n = true) (h2 : w.heap[D]? = some (.cells (vrow (n * 2) (spf px py)) 61)) : Calls Tryd.prog 19 #[.agg s.row, .slice (some ⟨D, 0, none⟩) n n] w fun o w' => ∃ v, o = .returned (.tuple #[v, .int .i64 0]) ∧ w'.ownsRow w.heap.size 61 2 v (fl (fun x y => plA (dryL s (cellsL a c)) (innP s (mkA px py n)) (8 * y + x)) (cellsL a c)).length (vals (fl (fun x y => plA (dryL s (cellsL a c)) (innP s (mkA px py n)) (8 * y + x)) (cellsL a c))) ∧ Below w.heap.size w w' := by
  have HK := Go.Lib.hid fun w hE h2 => ckSpots_any s D n px py e w hn hE h2 ho hf true hin
  have HAO := Go.Lib.hid fun w h2 => areaOf_any px py D n w hn (insL_in8 ho hin) h2
  have HGR := Go.Lib.hid fun w => ground_any s a c w ea ec ha hc ho
  have HIN := Go.Lib.hid fun gp gl f f2 w hG => inner_any s (dryL s (cellsL a c)) gp gl f f2 (mkA px py n) w hG
  have HCH := Go.Lib.hid fun (g : Nat → Bool) w => chosenF_any s a c (fun x y => g (8 * y + x)) 40 #[.agg (vrow 64 (blf g))] #[] w ea ec ha hc (fun _ _ => by kernel_rfl) fun x y W hx hy _ => arHas_any g x y W (by omega) (by omega)
  have hmf : ∀ (fn : Fn) (first cap : Array Value) (w : World), (Instr.makeFunc fn first cap).run Tryd.prog w = .ok (.func fn first cap) w := fun _ _ _ _ => rfl
  generalize dryL s (cellsL a c) = l at *
  generalize mkA px py n = m at *
  generalize plA l (innP s m) = r at *
  clear hin hf ho
  have P : Hid ((w.alloc (.cells (vrow 266 s.at) 37)).heap[w.heap.size]? = some (.cells (vrow 266 s.at) 37)) := heap_at _ _ _ (by simp)
  have L : Hid ((w.alloc (.cells (vrow 266 s.at) 37)).heap[D]? = some (.cells (vrow (n * 2) (spf px py)) 61)) := heap_past _ _ _ _ (row_lt h2) h2
  have hB : Hid (Below w.heap.size w (w.alloc (.cells (vrow 266 s.at) 37))) := Go.Lib.hid ((Below.refl w.heap.size w).alloc (by simp <;> omega) _)
  have E : Hid (Errs e (w.alloc (.cells (vrow 266 s.at) 37))) := hE.alloc _
  clear h2 hE
  go_enter Tryd.func19, Tryd.ntmps19
  go_wp2_with (first
    | go_skip
    | ((with_reducible refine wlAt 7 rfl ?_); refine wpList_loadall rfl 37 (.tmp 2) rfl _ rfl 266 s.at 37 _ Tryd.underlying37 rfl size_sheet P.out ?_)
    | (go_at_call 42; (refine (HK.out _ E.out L.out).mono ?_); rintro o w1 ⟨rfl, hb⟩; replace P := Go.Lib.hid (row_next hb P.out); replace L := Go.Lib.hid (row_next hb L.out); replace hB := Go.Lib.hid (below_next hB.out hb); clear hb E))
  refine Code.wp_mono (Q := fun ex a' W' => ex = .normal ∧ ∃ gp v, a' = { tmps := #[.agg s.row, .slice (some ⟨D, 0, none⟩) n n, .pointer (some ⟨w.heap.size, 0, none⟩), undef, v, .int .i64 0, .nilIface, .agg (vrow 266 s.at), .slice (some ⟨D, 0, none⟩) n n, .nilIface, .nilIface, .bool false, undef, undef, .agg (vrow 266 s.at), .slice (some ⟨D, 0, none⟩) n n, .agg (vrow 64 (blf m)), .agg (vrow 266 s.at), .slice (some ⟨gp, 0, none⟩) l.length 64, .agg (vrow 64 (blf r)), .func (.func 40) #[.agg (vrow 64 (blf r))] #[], v], defers := [] } ∧ W'.ownsRow w.heap.size 61 2 v (fl (fun x y => r (8 * y + x)) (cellsL a c)).length (vals (fl (fun x y => r (8 * y + x)) (cellsL a c))) ∧ Below w.heap.size w W') ?_ ?_
  rotate_left
  · refine wp_region_held_drew (S := fun W' => W'.heap[w.heap.size]? = some (.cells (vrow 266 s.at) 37) ∧ W'.heap[D]? = some (.cells (vrow (n * 2) (spf px py)) 61) ∧ Below w.heap.size w W') (by kernel_rfl) ⟨drwP P.out, drwP L.out, hB.out.drew⟩ (fun hH => ?_)
    clear hB P L
    generalize World.drew _ = Wd at hH ⊢
    refine wpAnyH_take (i := 0) (v := (.agg (vrow 266 s.at))) rfl (by kernel_rfl) (by kernel_rfl) (by kernel_rfl) (fun _ _ _ h => by cases h.1) (yields_row (by kernel_rfl) 37 _ rfl w.heap.size rfl 266 s.at 37 _ Tryd.underlying37 rfl size_sheet (fun _ h => h.1)) hH ?_
    (try simp only [List.getElem_toArray, List.getElem_cons_succ, List.getElem_cons_zero, Act.put, List.setIfInBounds_toArray, List.set_cons_succ, List.set_cons_zero])
    refine wpAnyH_take (i := 1) (v := (.slice (some ⟨D, 0, none⟩) n n)) rfl (by kernel_rfl) (by kernel_rfl) (by kernel_rfl) (fun _ _ _ h => by cases h.1) (.inl ⟨by kernel_rfl, fun w _ => by go_simp⟩) hH ?_
    (try simp only [List.getElem_toArray, List.getElem_cons_succ, List.getElem_cons_zero, Act.put, List.setIfInBounds_toArray, List.set_cons_succ, List.set_cons_zero])
    refine wpAnyH_take (i := 3) (v := (.agg (vrow 266 s.at))) rfl (by kernel_rfl) (by kernel_rfl) (by kernel_rfl) (fun _ _ _ h => by cases h.1) (yields_row (by kernel_rfl) 37 _ rfl w.heap.size rfl 266 s.at 37 _ Tryd.underlying37 rfl size_sheet (fun _ h => h.1)) hH ?_
    (try simp only [List.getElem_toArray, List.getElem_cons_succ, List.getElem_cons_zero, Act.put, List.setIfInBounds_toArray, List.set_cons_succ, List.set_cons_zero])
    refine wpAnyH_ready (rs := [2]) (by kernel_rfl) (by simp) (AllReadyH.cons rfl (fun K hK => ?_) AllReadyH.nil)
    rw [if_pos (by kernel_rfl)]
    go_simp
    go_at_call 37
    refine (HAO.out _ hH.2.1).mono ?_
    rintro o X1 ⟨rfl, hb⟩
    have hH1 : X1.heap[w.heap.size]? = some (.cells (vrow 266 s.at) 37) ∧ X1.heap[D]? = some (.cells (vrow (n * 2) (spf px py)) 61) ∧ Below w.heap.size w X1 := ⟨row_next hb hH.1, row_next hb hH.2.1, hH.2.2.trans (hb.mono hH.2.2.size)⟩
    clear hH hb
    refine hK.out _ _ hH1 (fun hH => ?_)
    clear hK K hH1
    (try simp only [List.getElem_toArray, List.getElem_cons_succ, List.getElem_cons_zero, Act.put, List.setIfInBounds_toArray, List.set_cons_succ, List.set_cons_zero])
    refine wpAnyH_ready (rs := [4]) (by kernel_rfl) (by simp) (AllReadyH.cons rfl (fun K hK => ?_) AllReadyH.nil)
    rw [if_pos (by kernel_rfl)]
    go_simp
    go_at_call 39
    refine (HGR.out _).mono ?_
    rintro o X2 ⟨gp, gl, rfl, hGM, hb⟩
    obtain ⟨f, f2, GR⟩ := hGM.rows
    clear hGM
    have hH1 : X2.heap[w.heap.size]? = some (.cells (vrow 266 s.at) 37) ∧ X2.heap[D]? = some (.cells (vrow (n * 2) (spf px py)) 61) ∧ Below w.heap.size w X2 := ⟨row_next hb hH.1, row_next hb hH.2.1, hH.2.2.trans (hb.mono hH.2.2.size)⟩
    clear hH hb
    refine hK.out _ _ hH1 (fun hH => ?_)
    clear hK K hH1
    (try simp only [List.getElem_toArray, List.getElem_cons_succ, List.getElem_cons_zero, Act.put, List.setIfInBounds_toArray, List.set_cons_succ, List.set_cons_zero])
    refine wpAnyH_ready (rs := [5]) (by kernel_rfl) (by simp) (AllReadyH.cons rfl (fun K hK => ?_) AllReadyH.nil)
    rw [if_pos (by kernel_rfl)]
    go_simp
    go_at_call 43
    refine (HIN.out _ _ _ _ _ GR).mono ?_
    rintro o X3 ⟨rfl, hb⟩
    clear GR
    have hH1 : X3.heap[w.heap.size]? = some (.cells (vrow 266 s.at) 37) ∧ X3.heap[D]? = some (.cells (vrow (n * 2) (spf px py)) 61) ∧ Below w.heap.size w X3 := ⟨row_next hb hH.1, row_next hb hH.2.1, hH.2.2.trans (hb.mono hH.2.2.size)⟩
    clear hH hb
    refine hK.out _ _ hH1 (fun hH => ?_)
    clear hK K hH1
    (try simp only [List.getElem_toArray, List.getElem_cons_succ, List.getElem_cons_zero, Act.put, List.setIfInBounds_toArray, List.set_cons_succ, List.set_cons_zero])
    refine wpAnyH_take (i := 6) (v := (.func (.func 40) #[.agg (vrow 64 (blf r))] #[])) rfl (by kernel_rfl) (by kernel_rfl) (by kernel_rfl) (fun _ _ _ h => by cases h.1) (.inl ⟨by kernel_rfl, fun w _ => by go_simp⟩) hH ?_
    (try simp only [List.getElem_toArray, List.getElem_cons_succ, List.getElem_cons_zero, Act.put, List.setIfInBounds_toArray, List.set_cons_succ, List.set_cons_zero])
    refine wpAnyH_ready (rs := [7]) (by kernel_rfl) (by simp) (AllReadyH.cons rfl (fun K hK => ?_) AllReadyH.nil)
    rw [if_pos (by kernel_rfl)]
    go_simp
    go_at_call 36
    have hsz := hH.2.2.size
    refine (HCH.out r _).mono ?_
    rintro o X4 ⟨v, rfl, hO, hb⟩
    replace hO := own_mono hsz hO
    have hH1 : X4.heap[w.heap.size]? = some (.cells (vrow 266 s.at) 37) ∧ X4.heap[D]? = some (.cells (vrow (n * 2) (spf px py)) 61) ∧ Below w.heap.size w X4 := ⟨row_next hb hH.1, row_next hb hH.2.1, hH.2.2.trans (hb.mono hH.2.2.size)⟩
    clear hH hb
    refine hK.out _ _ hH1 (fun hH => ?_)
    clear hK K hH1
    (try simp only [List.getElem_toArray, List.getElem_cons_succ, List.getElem_cons_zero, Act.put, List.setIfInBounds_toArray, List.set_cons_succ, List.set_cons_zero])
    refine wpAnyH_take (i := 8) (v := (v)) rfl (by kernel_rfl) (by kernel_rfl) (by kernel_rfl) (fun _ _ _ h => by cases h.1) (.inl ⟨by kernel_rfl, fun w _ => by go_simp⟩) hH ?_
    (try simp only [List.getElem_toArray, List.getElem_cons_succ, List.getElem_cons_zero, Act.put, List.setIfInBounds_toArray, List.set_cons_succ, List.set_cons_zero])
    refine wpAnyH_take (i := 9) (v := (.int .i64 0)) rfl (by kernel_rfl) (by kernel_rfl) (by kernel_rfl) (fun _ _ _ h => by cases h.1) (.inl ⟨by kernel_rfl, fun w _ => by go_simp⟩) hH ?_
    (try simp only [List.getElem_toArray, List.getElem_cons_succ, List.getElem_cons_zero, Act.put, List.setIfInBounds_toArray, List.set_cons_succ, List.set_cons_zero])
    refine wpAnyH_done (by kernel_rfl) ?_ _
    exact ⟨rfl, gp, v, rfl, hO, hH.2.2⟩
  rintro ex a' W' ⟨rfl, gp, v, rfl, hO, hb⟩
  go_wp2
  go_ret2
  exact ⟨v, rfl, hO, hb⟩
end Go.Proofs.YthienbbecbakjaaDoor
namespace Go.Proofs.YthienbbecbakjaaDoor
open Go.RowKit
set_option maxRecDepth 100000
set_option linter.unusedVariables false
set_option linter.unusedSimpArgs false
set_option maxHeartbeats 2000000 in
theorem inn_err (s : Sh) (D n k : Nat) (c : Int) (px py : Nat → Int) (e : ErrE) (w : World) (hE : Errs e w) (h2 : w.heap[D]? = some (.cells (vrow (n * 2) (spf px py)) 61)) (hc0 : ∀ w, Errs e w → w.heap[D]? = some (.cells (vrow (n * 2) (spf px py)) 61) → Calls Tryd.prog 42 #[.agg s.row, .slice (some ⟨D, 0, none⟩) n n] w fun o w' => o = .returned (errP e k) ∧ Below w.heap.size w w') (hd0 : ∀ w, Errs e w → Calls Tryd.prog 35 #[errP e k] w fun o w' => o = .returned (.int .i64 c) ∧ Below w.heap.size w w') : Calls Tryd.prog 19 #[.agg s.row, .slice (some ⟨D, 0, none⟩) n n] w fun o w' => o = .returned (.tuple #[.slice none 0 0, .int .i64 c]) ∧ Below w.heap.size w w' := by
  have HS := Go.Lib.hid hc0
  have HD := Go.Lib.hid hd0
  clear hc0 hd0
  have P : Hid ((w.alloc (.cells (vrow 266 s.at) 37)).heap[w.heap.size]? = some (.cells (vrow 266 s.at) 37)) := heap_at _ _ _ (by simp)
  have L : Hid ((w.alloc (.cells (vrow 266 s.at) 37)).heap[D]? = some (.cells (vrow (n * 2) (spf px py)) 61)) := heap_past _ _ _ _ (row_lt h2) h2
  have hB : Hid (Below w.heap.size w (w.alloc (.cells (vrow 266 s.at) 37))) := Go.Lib.hid ((Below.refl w.heap.size w).alloc (by simp <;> omega) _)
  clear h2
  go_enter Tryd.func19, Tryd.ntmps19
  go_wp2_with (first
    | go_skip
    | ((with_reducible refine wlAt 7 rfl ?_); refine wpList_loadall rfl 37 (.tmp 2) rfl _ rfl 266 s.at 37 _ Tryd.underlying37 rfl size_sheet P.out ?_)
    | (go_at_call 42; (refine (HS.out _ (hE.next hB.out) L.out).mono ?_); rintro o w1 ⟨rfl, hb⟩; replace P := Go.Lib.hid (row_next hb P.out); replace L := Go.Lib.hid (row_next hb L.out); replace hB := Go.Lib.hid (below_next hB.out hb); clear hb)
    | (go_at_call 35; (refine (HD.out _ (hE.next hB.out)).mono ?_); rintro o w1 ⟨rfl, hb⟩; replace hB := Go.Lib.hid (below_next hB.out hb); clear hb))
  go_ret2
  exact ⟨rfl, hB.out⟩
set_option maxHeartbeats 2000000 in
theorem sps_err (s : Sh) (D n k : Nat) (c : Int) (px py : Nat → Int) (st : Int) (e : ErrE) (w : World) (hE : Errs e w) (h2 : w.heap[D]? = some (.cells (vrow (n * 2) (spf px py)) 61)) (hc0 : ∀ w, Errs e w → w.heap[D]? = some (.cells (vrow (n * 2) (spf px py)) 61) → Calls Tryd.prog 34 #[.agg s.row, .slice (some ⟨D, 0, none⟩) n n, .int .i64 st] w fun o w' => o = .returned (errP e k) ∧ Below w.heap.size w w') (hd0 : ∀ w, Errs e w → Calls Tryd.prog 35 #[errP e k] w fun o w' => o = .returned (.int .i64 c) ∧ Below w.heap.size w w') : Calls Tryd.prog 17 #[.agg s.row, .slice (some ⟨D, 0, none⟩) n n, .int .i64 st] w fun o w' => o = .returned (.tuple #[.slice none 0 0, .int .i64 c]) ∧ Below w.heap.size w w' := by
  have HS := Go.Lib.hid hc0
  have HD := Go.Lib.hid hd0
  clear hc0 hd0
  have P : Hid ((w.alloc (.cells (vrow 266 s.at) 37)).heap[w.heap.size]? = some (.cells (vrow 266 s.at) 37)) := heap_at _ _ _ (by simp)
  have L : Hid ((w.alloc (.cells (vrow 266 s.at) 37)).heap[D]? = some (.cells (vrow (n * 2) (spf px py)) 61)) := heap_past _ _ _ _ (row_lt h2) h2
  have hB : Hid (Below w.heap.size w (w.alloc (.cells (vrow 266 s.at) 37))) := Go.Lib.hid ((Below.refl w.heap.size w).alloc (by simp <;> omega) _)
  clear h2
  go_enter Tryd.func17, Tryd.ntmps17
  go_wp2_with (first
    | go_skip
    | ((with_reducible refine wlAt 9 rfl ?_); refine wpList_loadall rfl 37 (.tmp 3) rfl _ rfl 266 s.at 37 _ Tryd.underlying37 rfl size_sheet P.out ?_)
    | (go_at_call 34; (refine (HS.out _ (hE.next hB.out) L.out).mono ?_); rintro o w1 ⟨rfl, hb⟩; replace P := Go.Lib.hid (row_next hb P.out); replace L := Go.Lib.hid (row_next hb L.out); replace hB := Go.Lib.hid (below_next hB.out hb); clear hb)
    | (go_at_call 35; (refine (HD.out _ (hE.next hB.out)).mono ?_); rintro o w1 ⟨rfl, hb⟩; replace hB := Go.Lib.hid (below_next hB.out hb); clear hb))
  go_ret2
  exact ⟨rfl, hB.out⟩
set_option maxHeartbeats 2000000 in
theorem hfr_err (s : Sh) (D n k : Nat) (c : Int) (px py : Nat → Int) (e : ErrE) (w : World) (hE : Errs e w) (h2 : w.heap[D]? = some (.cells (vrow (n * 2) (spf px py)) 61)) (hc0 : ∀ w, Errs e w → w.heap[D]? = some (.cells (vrow (n * 2) (spf px py)) 61) → Calls Tryd.prog 47 #[.agg s.row, .slice (some ⟨D, 0, none⟩) n n] w fun o w' => o = .returned (errP e k) ∧ Below w.heap.size w w') (hd0 : ∀ w, Errs e w → Calls Tryd.prog 35 #[errP e k] w fun o w' => o = .returned (.int .i64 c) ∧ Below w.heap.size w w') : Calls Tryd.prog 21 #[.agg s.row, .slice (some ⟨D, 0, none⟩) n n] w fun o w' => o = .returned (.tuple #[.bool false, .int .i64 c]) ∧ Below w.heap.size w w' := by
  have HS := Go.Lib.hid hc0
  have HD := Go.Lib.hid hd0
  clear hc0 hd0
  have P : Hid ((w.alloc (.cells (vrow 266 s.at) 37)).heap[w.heap.size]? = some (.cells (vrow 266 s.at) 37)) := heap_at _ _ _ (by simp)
  have L : Hid ((w.alloc (.cells (vrow 266 s.at) 37)).heap[D]? = some (.cells (vrow (n * 2) (spf px py)) 61)) := heap_past _ _ _ _ (row_lt h2) h2
  have hB : Hid (Below w.heap.size w (w.alloc (.cells (vrow 266 s.at) 37))) := Go.Lib.hid ((Below.refl w.heap.size w).alloc (by simp <;> omega) _)
  clear h2
  go_enter Tryd.func21, Tryd.ntmps21
  go_wp2_with (first
    | go_skip
    | ((with_reducible refine wlAt 9 rfl ?_); refine wpList_loadall rfl 37 (.tmp 2) rfl _ rfl 266 s.at 37 _ Tryd.underlying37 rfl size_sheet P.out ?_)
    | (go_at_call 47; (refine (HS.out _ (hE.next hB.out) L.out).mono ?_); rintro o w1 ⟨rfl, hb⟩; replace P := Go.Lib.hid (row_next hb P.out); replace L := Go.Lib.hid (row_next hb L.out); replace hB := Go.Lib.hid (below_next hB.out hb); clear hb)
    | (go_at_call 35; (refine (HD.out _ (hE.next hB.out)).mono ?_); rintro o w1 ⟨rfl, hb⟩; replace hB := Go.Lib.hid (below_next hB.out hb); clear hb))
  go_ret2
  exact ⟨rfl, hB.out⟩
set_option maxHeartbeats 8000000 in
theorem sps_ok (s : Sh) (D n st : Nat) (px py : Nat → Int) (a c : Nat) (e : ErrE) (w : World) (hE : Errs e w) (hn : n ≤ 1048576) (hst : st ≤ 16) (ea : s.wide = a) (ec : s.high = c) (ha : a ≤ 8) (hc : c ≤ 8) (hf : s.fit) (ho : okI s = true) (hin : insL s px py n = true) (h2 : w.heap[D]? = some (.cells (vrow (n * 2) (spf px py)) 61)) : Calls Tryd.prog 17 #[.agg s.row, .slice (some ⟨D, 0, none⟩) n n, .int .i64 st] w fun o w' => ∃ v, o = .returned (.tuple #[v, .int .i64 0]) ∧ w'.ownsRow w.heap.size 61 2 v (fl (fun x y => sprI s (dryL s (cellsL a c)) (mkA px py n) st (8 * y + x)) (cellsL a c)).length (vals (fl (fun x y => sprI s (dryL s (cellsL a c)) (mkA px py n) st (8 * y + x)) (cellsL a c))) ∧ Below w.heap.size w w' := by
  have HK := Go.Lib.hid fun w hE h2 => ckSteps_ok s D n px py e w hn hE h2 hf (st : Int) ho hin (by omega)
  have HAO := Go.Lib.hid fun w h2 => areaOf_any px py D n w hn (insL_in8 ho hin) h2
  have HGR := Go.Lib.hid fun w => ground_any s a c w ea ec ha hc ho
  have HIN := Go.Lib.hid fun gp gl f f2 w hG => spread_any s (dryL s (cellsL a c)) gp gl st f f2 (mkA px py n) w (by omega) hG
  have HCH := Go.Lib.hid fun (g : Nat → Bool) w => chosenF_any s a c (fun x y => g (8 * y + x)) 40 #[.agg (vrow 64 (blf g))] #[] w ea ec ha hc (fun _ _ => by kernel_rfl) fun x y W hx hy _ => arHas_any g x y W (by omega) (by omega)
  have hmf : ∀ (fn : Fn) (first cap : Array Value) (w : World), (Instr.makeFunc fn first cap).run Tryd.prog w = .ok (.func fn first cap) w := fun _ _ _ _ => rfl
  generalize dryL s (cellsL a c) = l at *
  generalize mkA px py n = m at *
  generalize sprI s l m st = r at *
  clear hin hf ho
  have P : Hid ((w.alloc (.cells (vrow 266 s.at) 37)).heap[w.heap.size]? = some (.cells (vrow 266 s.at) 37)) := heap_at _ _ _ (by simp)
  have L : Hid ((w.alloc (.cells (vrow 266 s.at) 37)).heap[D]? = some (.cells (vrow (n * 2) (spf px py)) 61)) := heap_past _ _ _ _ (row_lt h2) h2
  have hB : Hid (Below w.heap.size w (w.alloc (.cells (vrow 266 s.at) 37))) := Go.Lib.hid ((Below.refl w.heap.size w).alloc (by simp <;> omega) _)
  clear h2
  go_enter Tryd.func17, Tryd.ntmps17
  go_wp2_with (first
    | go_skip
    | ((with_reducible refine wlAt 9 rfl ?_); refine wpList_loadall rfl 37 (.tmp 3) rfl _ rfl 266 s.at 37 _ Tryd.underlying37 rfl size_sheet P.out ?_)
    | (go_at_call 34; (refine (HK.out _ (hE.next hB.out) L.out).mono ?_); rintro o w1 ⟨rfl, hb⟩; replace P := Go.Lib.hid (row_next hb P.out); replace L := Go.Lib.hid (row_next hb L.out); replace hB := Go.Lib.hid (below_next hB.out hb); clear hb))
  refine Code.wp_mono (Q := fun ex a' W' => ex = .normal ∧ ∃ gp v, a' = { tmps := #[.agg s.row, .slice (some ⟨D, 0, none⟩) n n, .int .i64 st, .pointer (some ⟨w.heap.size, 0, none⟩), undef, undef, v, .int .i64 0, .nilIface, .agg (vrow 266 s.at), .slice (some ⟨D, 0, none⟩) n n, .int .i64 st, .nilIface, .nilIface, .bool false, undef, undef, .agg (vrow 266 s.at), .slice (some ⟨D, 0, none⟩) n n, .agg (vrow 64 (blf m)), .agg (vrow 266 s.at), .slice (some ⟨gp, 0, none⟩) l.length 64, .int .i64 st, .agg (vrow 64 (blf r)), .func (.func 40) #[.agg (vrow 64 (blf r))] #[], v], defers := [] } ∧ W'.ownsRow w.heap.size 61 2 v (fl (fun x y => r (8 * y + x)) (cellsL a c)).length (vals (fl (fun x y => r (8 * y + x)) (cellsL a c))) ∧ Below w.heap.size w W') ?_ ?_
  rotate_left
  · refine wp_region_held_drew (S := fun W' => W'.heap[w.heap.size]? = some (.cells (vrow 266 s.at) 37) ∧ W'.heap[D]? = some (.cells (vrow (n * 2) (spf px py)) 61) ∧ Below w.heap.size w W') (by kernel_rfl) ⟨drwP P.out, drwP L.out, hB.out.drew⟩ (fun hH => ?_)
    clear hB P L
    generalize World.drew _ = Wd at hH ⊢
    refine wpAnyH_take (i := 0) (v := (.agg (vrow 266 s.at))) rfl (by kernel_rfl) (by kernel_rfl) (by kernel_rfl) (fun _ _ _ h => by cases h.1) (yields_row (by kernel_rfl) 37 _ rfl w.heap.size rfl 266 s.at 37 _ Tryd.underlying37 rfl size_sheet (fun _ h => h.1)) hH ?_
    (try simp only [List.getElem_toArray, List.getElem_cons_succ, List.getElem_cons_zero, Act.put, List.setIfInBounds_toArray, List.set_cons_succ, List.set_cons_zero])
    refine wpAnyH_take (i := 1) (v := (.slice (some ⟨D, 0, none⟩) n n)) rfl (by kernel_rfl) (by kernel_rfl) (by kernel_rfl) (fun _ _ _ h => by cases h.1) (.inl ⟨by kernel_rfl, fun w _ => by go_simp⟩) hH ?_
    (try simp only [List.getElem_toArray, List.getElem_cons_succ, List.getElem_cons_zero, Act.put, List.setIfInBounds_toArray, List.set_cons_succ, List.set_cons_zero])
    refine wpAnyH_take (i := 3) (v := (.agg (vrow 266 s.at))) rfl (by kernel_rfl) (by kernel_rfl) (by kernel_rfl) (fun _ _ _ h => by cases h.1) (yields_row (by kernel_rfl) 37 _ rfl w.heap.size rfl 266 s.at 37 _ Tryd.underlying37 rfl size_sheet (fun _ h => h.1)) hH ?_
    (try simp only [List.getElem_toArray, List.getElem_cons_succ, List.getElem_cons_zero, Act.put, List.setIfInBounds_toArray, List.set_cons_succ, List.set_cons_zero])
    refine wpAnyH_take (i := 5) (v := (.int .i64 st)) rfl (by kernel_rfl) (by kernel_rfl) (by kernel_rfl) (fun _ _ _ h => by cases h.1) (.inl ⟨by kernel_rfl, fun w _ => by go_simp⟩) hH ?_
    (try simp only [List.getElem_toArray, List.getElem_cons_succ, List.getElem_cons_zero, Act.put, List.setIfInBounds_toArray, List.set_cons_succ, List.set_cons_zero])
    refine wpAnyH_ready (rs := [2]) (by kernel_rfl) (by simp) (AllReadyH.cons rfl (fun K hK => ?_) AllReadyH.nil)
    rw [if_pos (by kernel_rfl)]
    go_simp
    go_at_call 37
    refine (HAO.out _ hH.2.1).mono ?_
    rintro o X1 ⟨rfl, hb⟩
    have hH1 : X1.heap[w.heap.size]? = some (.cells (vrow 266 s.at) 37) ∧ X1.heap[D]? = some (.cells (vrow (n * 2) (spf px py)) 61) ∧ Below w.heap.size w X1 := ⟨row_next hb hH.1, row_next hb hH.2.1, hH.2.2.trans (hb.mono hH.2.2.size)⟩
    clear hH hb
    refine hK.out _ _ hH1 (fun hH => ?_)
    clear hK K hH1
    (try simp only [List.getElem_toArray, List.getElem_cons_succ, List.getElem_cons_zero, Act.put, List.setIfInBounds_toArray, List.set_cons_succ, List.set_cons_zero])
    refine wpAnyH_ready (rs := [4]) (by kernel_rfl) (by simp) (AllReadyH.cons rfl (fun K hK => ?_) AllReadyH.nil)
    rw [if_pos (by kernel_rfl)]
    go_simp
    go_at_call 39
    refine (HGR.out _).mono ?_
    rintro o X2 ⟨gp, gl, rfl, hGM, hb⟩
    obtain ⟨f, f2, GR⟩ := hGM.rows
    clear hGM
    have hH1 : X2.heap[w.heap.size]? = some (.cells (vrow 266 s.at) 37) ∧ X2.heap[D]? = some (.cells (vrow (n * 2) (spf px py)) 61) ∧ Below w.heap.size w X2 := ⟨row_next hb hH.1, row_next hb hH.2.1, hH.2.2.trans (hb.mono hH.2.2.size)⟩
    clear hH hb
    refine hK.out _ _ hH1 (fun hH => ?_)
    clear hK K hH1
    (try simp only [List.getElem_toArray, List.getElem_cons_succ, List.getElem_cons_zero, Act.put, List.setIfInBounds_toArray, List.set_cons_succ, List.set_cons_zero])
    refine wpAnyH_ready (rs := [6]) (by kernel_rfl) (by simp) (AllReadyH.cons rfl (fun K hK => ?_) AllReadyH.nil)
    rw [if_pos (by kernel_rfl)]
    go_simp
    go_at_call 38
    refine (HIN.out _ _ _ _ _ GR).mono ?_
    rintro o X3 ⟨rfl, hb⟩
    clear GR
    have hH1 : X3.heap[w.heap.size]? = some (.cells (vrow 266 s.at) 37) ∧ X3.heap[D]? = some (.cells (vrow (n * 2) (spf px py)) 61) ∧ Below w.heap.size w X3 := ⟨row_next hb hH.1, row_next hb hH.2.1, hH.2.2.trans (hb.mono hH.2.2.size)⟩
    clear hH hb
    refine hK.out _ _ hH1 (fun hH => ?_)
    clear hK K hH1
    (try simp only [List.getElem_toArray, List.getElem_cons_succ, List.getElem_cons_zero, Act.put, List.setIfInBounds_toArray, List.set_cons_succ, List.set_cons_zero])
    refine wpAnyH_take (i := 7) (v := (.func (.func 40) #[.agg (vrow 64 (blf r))] #[])) rfl (by kernel_rfl) (by kernel_rfl) (by kernel_rfl) (fun _ _ _ h => by cases h.1) (.inl ⟨by kernel_rfl, fun w _ => by go_simp⟩) hH ?_
    (try simp only [List.getElem_toArray, List.getElem_cons_succ, List.getElem_cons_zero, Act.put, List.setIfInBounds_toArray, List.set_cons_succ, List.set_cons_zero])
    refine wpAnyH_ready (rs := [8]) (by kernel_rfl) (by simp) (AllReadyH.cons rfl (fun K hK => ?_) AllReadyH.nil)
    rw [if_pos (by kernel_rfl)]
    go_simp
    go_at_call 36
    have hsz := hH.2.2.size
    refine (HCH.out r _).mono ?_
    rintro o X4 ⟨v, rfl, hO, hb⟩
    replace hO := own_mono hsz hO
    have hH1 : X4.heap[w.heap.size]? = some (.cells (vrow 266 s.at) 37) ∧ X4.heap[D]? = some (.cells (vrow (n * 2) (spf px py)) 61) ∧ Below w.heap.size w X4 := ⟨row_next hb hH.1, row_next hb hH.2.1, hH.2.2.trans (hb.mono hH.2.2.size)⟩
    clear hH hb
    refine hK.out _ _ hH1 (fun hH => ?_)
    clear hK K hH1
    (try simp only [List.getElem_toArray, List.getElem_cons_succ, List.getElem_cons_zero, Act.put, List.setIfInBounds_toArray, List.set_cons_succ, List.set_cons_zero])
    refine wpAnyH_take (i := 9) (v := (v)) rfl (by kernel_rfl) (by kernel_rfl) (by kernel_rfl) (fun _ _ _ h => by cases h.1) (.inl ⟨by kernel_rfl, fun w _ => by go_simp⟩) hH ?_
    (try simp only [List.getElem_toArray, List.getElem_cons_succ, List.getElem_cons_zero, Act.put, List.setIfInBounds_toArray, List.set_cons_succ, List.set_cons_zero])
    refine wpAnyH_take (i := 10) (v := (.int .i64 0)) rfl (by kernel_rfl) (by kernel_rfl) (by kernel_rfl) (fun _ _ _ h => by cases h.1) (.inl ⟨by kernel_rfl, fun w _ => by go_simp⟩) hH ?_
    (try simp only [List.getElem_toArray, List.getElem_cons_succ, List.getElem_cons_zero, Act.put, List.setIfInBounds_toArray, List.set_cons_succ, List.set_cons_zero])
    refine wpAnyH_done (by kernel_rfl) ?_ _
    exact ⟨rfl, gp, v, rfl, hO, hH.2.2⟩
  rintro ex a' W' ⟨rfl, gp, v, rfl, hO, hb⟩
  go_wp2
  go_ret2
  exact ⟨v, rfl, hO, hb⟩
end Go.Proofs.YthienbbecbakjaaDoor
namespace Go.Proofs.YthienbbecbakjaaDoor
open Go.RowKit
set_option maxRecDepth 100000
set_option linter.unusedVariables false
set_option linter.unusedSimpArgs false
set_option maxHeartbeats 2000000 in
theorem in16_any (k : Int) (w : World) : Calls Tryd.prog 33 #[.int .i64 k, .int .i64 0, .int .i64 16] w fun o w' => o = .returned (.bool (decide (0 ≤ k) && decide (k ≤ 16))) ∧ Below w.heap.size w w' := by
  by_cases h0 : 0 ≤ k
  · have h1 : decide (k ≥ 0) = true := by simpa using h0
    have h2 : decide (0 ≤ k) = true := by simpa using h0
    rw [h2, Bool.true_and]
    go_enter Tryd.func33, Tryd.ntmps33
    go_wp2
    go_ret
    exact ⟨rfl, Below.refl _ _⟩
  · have h1 : decide (k ≥ 0) = false := by simpa using h0
    have h2 : decide (0 ≤ k) = false := by simpa using h0
    rw [h2, Bool.false_and]
    go_enter Tryd.func33, Tryd.ntmps33
    go_wp2
    go_ret
    exact ⟨rfl, Below.refl _ _⟩
set_option maxHeartbeats 2000000 in
theorem lsps_bad (s : Sh) (D n k : Nat) (st : Int) (px py : Nat → Int) (w : World) (hk : k = 1 ∨ k = 2) (h2 : w.heap[D]? = some (.cells (vrow (n * 2) (spf px py)) 61)) (HA0 : ∀ b w, w.heap[b]? = some (.cells (vrow 266 s.at) 37) → w.heap[D]? = some (.cells (vrow (n * 2) (spf px py)) 61) → Calls Tryd.prog 24 #[.pointer (some ⟨b, 0, none⟩), .slice (some ⟨D, 0, none⟩) n n] w fun e w' => e = .returned (.int .i64 k) ∧ Below w.heap.size w w') : Calls Tryd.prog 16 #[.agg s.row, .slice (some ⟨D, 0, none⟩) n n, .int .i64 st] w fun e w' => ∃ v, e = .returned (.tuple #[v, .int .i64 k]) ∧ (∃ ao cp, v = .slice ao 0 cp) ∧ Below w.heap.size w w' := by
  have HA := Go.Lib.hid HA0
  clear HA0
  have hk1 : ((k : Int) == 0) = false := by rcases hk with rfl | rfl <;> rfl
  have hk2 : (!((k : Int) == 0)) = true := by rw [hk1]; rfl
  have hk3 : ((k : Int) != 0) = true := by rcases hk with rfl | rfl <;> rfl
  have P : Hid ((w.alloc (.cells (vrow 266 s.at) 37)).heap[w.heap.size]? = some (.cells (vrow 266 s.at) 37)) := heap_at _ _ _ (by simp)
  have L : Hid ((w.alloc (.cells (vrow 266 s.at) 37)).heap[D]? = some (.cells (vrow (n * 2) (spf px py)) 61)) := heap_past _ _ _ _ (row_lt h2) h2
  have hB : Hid (Below w.heap.size w (w.alloc (.cells (vrow 266 s.at) 37))) := Go.Lib.hid ((Below.refl w.heap.size w).alloc (by simp <;> omega) _)
  clear h2
  have zb := zero_b88
  go_enter Tryd.func16, Tryd.ntmps16
  go_wp2_with (first
    | go_skip
    | (go_at_call 24; (refine (HA.out _ _ P.out L.out).mono ?_); rintro o w1 ⟨rfl, hb⟩; replace P := Go.Lib.hid (row_next hb P.out); replace L := Go.Lib.hid (row_next hb L.out); replace hB := Go.Lib.hid (below_next hB.out hb); clear hb))
  go_ret2
  exact ⟨_, rfl, ⟨_, _, rfl⟩, hB.out.alloc hB.out.size _⟩
set_option maxHeartbeats 2000000 in
theorem lsps_rng (s : Sh) (D n : Nat) (st : Int) (px py : Nat → Int) (w : World) (hst : ¬(0 ≤ st ∧ st ≤ 16)) (h2 : w.heap[D]? = some (.cells (vrow (n * 2) (spf px py)) 61)) (HA0 : ∀ b w, w.heap[b]? = some (.cells (vrow 266 s.at) 37) → w.heap[D]? = some (.cells (vrow (n * 2) (spf px py)) 61) → Calls Tryd.prog 24 #[.pointer (some ⟨b, 0, none⟩), .slice (some ⟨D, 0, none⟩) n n] w fun e w' => e = .returned (.int .i64 0) ∧ Below w.heap.size w w') : Calls Tryd.prog 16 #[.agg s.row, .slice (some ⟨D, 0, none⟩) n n, .int .i64 st] w fun e w' => ∃ v, e = .returned (.tuple #[v, .int .i64 2]) ∧ (∃ ao cp, v = .slice ao 0 cp) ∧ Below w.heap.size w w' := by
  have HA := Go.Lib.hid HA0
  clear HA0
  have HI : Hid (∀ w, Calls Tryd.prog 33 #[.int .i64 st, .int .i64 0, .int .i64 16] w fun o w' => o = .returned (.bool false) ∧ Below w.heap.size w w') := Go.Lib.hid fun w => by
    have h := in16_any st w
    rw [show (decide (0 ≤ st) && decide (st ≤ 16)) = false by rw [Bool.and_eq_false_iff]; simp only [decide_eq_false_iff_not]; omega] at h
    exact h
  have P : Hid ((w.alloc (.cells (vrow 266 s.at) 37)).heap[w.heap.size]? = some (.cells (vrow 266 s.at) 37)) := heap_at _ _ _ (by simp)
  have L : Hid ((w.alloc (.cells (vrow 266 s.at) 37)).heap[D]? = some (.cells (vrow (n * 2) (spf px py)) 61)) := heap_past _ _ _ _ (row_lt h2) h2
  have hB : Hid (Below w.heap.size w (w.alloc (.cells (vrow 266 s.at) 37))) := Go.Lib.hid ((Below.refl w.heap.size w).alloc (by simp <;> omega) _)
  clear h2
  have zb := zero_b88
  go_enter Tryd.func16, Tryd.ntmps16
  go_wp2_with (first
    | go_skip
    | (go_at_call 24; (refine (HA.out _ _ P.out L.out).mono ?_); rintro o w1 ⟨rfl, hb⟩; replace P := Go.Lib.hid (row_next hb P.out); replace L := Go.Lib.hid (row_next hb L.out); replace hB := Go.Lib.hid (below_next hB.out hb); clear hb)
    | (go_at_call 33; (refine (HI.out _).mono ?_); rintro o w1 ⟨rfl, hb⟩; replace P := Go.Lib.hid (row_next hb P.out); replace L := Go.Lib.hid (row_next hb L.out); replace hB := Go.Lib.hid (below_next hB.out hb); clear hb))
  go_ret2
  exact ⟨_, rfl, ⟨_, _, rfl⟩, hB.out.alloc hB.out.size _⟩
set_option maxHeartbeats 4000000 in
theorem lsps_ok (s : Sh) (D n st : Nat) (px py : Nat → Int) (f : Nat → Bool) (w : World) (hst : st ≤ 16) (hn : n ≤ 1048576) (hf : s.fit) (ho : okI s = true) (hin : insL s px py n = true) (hfe : mkS s px py n = f) (h2 : w.heap[D]? = some (.cells (vrow (n * 2) (spf px py)) 61)) (HA0 : ∀ b w, w.heap[b]? = some (.cells (vrow 266 s.at) 37) → w.heap[D]? = some (.cells (vrow (n * 2) (spf px py)) 61) → Calls Tryd.prog 24 #[.pointer (some ⟨b, 0, none⟩), .slice (some ⟨D, 0, none⟩) n n] w fun e w' => e = .returned (.int .i64 0) ∧ Below w.heap.size w w') : Calls Tryd.prog 16 #[.agg s.row, .slice (some ⟨D, 0, none⟩) n n, .int .i64 st] w fun e w' => ∃ v, e = .returned (.tuple #[v, .int .i64 0]) ∧ Owns w' w.heap.size v (allL (itM s f st)) ∧ Below w.heap.size w w' := by
  have HA := Go.Lib.hid HA0
  have HS : Hid (∀ b w, w.heap[b]? = some (.cells (vrow 266 s.at) 37) → w.heap[D]? = some (.cells (vrow (n * 2) (spf px py)) 61) → Calls Tryd.prog 25 #[.pointer (some ⟨b, 0, none⟩), .slice (some ⟨D, 0, none⟩) n n] w fun e w' => e = .returned (.agg (vrow 64 (blf f))) ∧ Below w.heap.size w w') := Go.Lib.hid fun b w h1 h2 => by have h := lset_any s b px py D n w hn (insL_in8 ho hin) h1 h2; rw [hfe] at h; exact h
  have HP := Go.Lib.hid fun g b bi w h1 h2 => lspr_any s b bi g w ho hf h1 h2
  have HLL := Go.Lib.hid fun g b w hs => (show Calls Tryd.prog 27 #[.pointer (some ⟨b, 0, none⟩)] w fun e w' => ∃ v, e = .returned v ∧ Owns w' w.heap.size v (allL g) ∧ Below w.heap.size w w' from llist_any g b w hs)
  have HI : Hid (∀ w, Calls Tryd.prog 33 #[.int .i64 st, .int .i64 0, .int .i64 16] w fun o w' => o = .returned (.bool true) ∧ Below w.heap.size w w') := Go.Lib.hid fun w => by
    have h := in16_any st w
    rw [show (decide (0 ≤ (st : Int)) && decide ((st : Int) ≤ 16)) = true by rw [Bool.and_eq_true]; simp only [decide_eq_true_eq]; omega] at h
    exact h
  clear HA0 hfe ho hf hin
  have P : Hid ((w.alloc (.cells (vrow 266 s.at) 37)).heap[w.heap.size]? = some (.cells (vrow 266 s.at) 37)) := heap_at _ _ _ (by simp)
  have L : Hid ((w.alloc (.cells (vrow 266 s.at) 37)).heap[D]? = some (.cells (vrow (n * 2) (spf px py)) 61)) := heap_past _ _ _ _ (row_lt h2) h2
  have hB : Hid (Below w.heap.size w (w.alloc (.cells (vrow 266 s.at) 37))) := Go.Lib.hid ((Below.refl w.heap.size w).alloc (by simp <;> omega) _)
  clear h2
  have zb := zero_b88
  go_enter Tryd.func16, Tryd.ntmps16
  go_wp2_with (first
    | go_skip
    | (go_at_call 24; (refine (HA.out _ _ P.out L.out).mono ?_); rintro o w1 ⟨rfl, hb⟩; replace P := Go.Lib.hid (row_next hb P.out); replace L := Go.Lib.hid (row_next hb L.out); replace hB := Go.Lib.hid (below_next hB.out hb); clear hb)
    | (go_at_call 33; (refine (HI.out _).mono ?_); rintro o w1 ⟨rfl, hb⟩; replace P := Go.Lib.hid (row_next hb P.out); replace L := Go.Lib.hid (row_next hb L.out); replace hB := Go.Lib.hid (below_next hB.out hb); clear hb)
    | (go_at_call 25; (refine (HS.out _ _ P.out L.out).mono ?_); rintro o w2 ⟨rfl, hb⟩; replace P := Go.Lib.hid (row_next hb P.out); replace L := Go.Lib.hid (row_next hb L.out); replace hB := Go.Lib.hid (below_next hB.out hb); clear hb L)
    | ((with_reducible refine wlOp (.store 52 (.tmp 9) (.tmp 25)) rfl ?_); refine wpList_storeall rfl 52 (.tmp 9) (.tmp 25) rfl _ rfl 64 (blf fun _ => false) (blf f) rfl 52 size_b88 (heap_at _ _ _ rfl) (fun i _ => blf_one _ i) ?_; rw [setRow_at _ _ _ _ _ rfl]; have V := Go.Lib.hid (heap_at w2 (.cells (vrow 64 (blf f)) 52) _ rfl); have nP := row_lt P.out; have hsv := hB.out.size; replace P := Go.Lib.hid (heap_past _ (.cells (vrow 64 (blf f)) 52) _ _ nP P.out); replace hB := Go.Lib.hid (hB.out.alloc hB.out.size (.cells (vrow 64 (blf f)) 52)); generalize w2.heap.size = vb at V nP hsv ⊢; generalize w2.alloc _ = w2' at V P hB ⊢))
  have p1 := P.out; have v1 := V.out; have b1 := hB.out
  clear P V hB HA HS HI
  go_loopw [10] (fun kv wr => ∃ k : Nat, k ≤ st ∧ kv = .int .i64 k ∧ wr.heap[w.heap.size]? = some (.cells (vrow 266 s.at) 37) ∧ wr.heap[vb]? = some (.cells (vrow 64 (blf (itM s f k))) 52) ∧ Below w.heap.size w wr) (fun kv _ => st - (intOf kv).toNat)
  case atStart => exact ⟨0, by omega, rfl, p1, v1, b1⟩
  case round =>
    clear p1 v1 b1
    obtain ⟨k, hk, rfl, P, V, hB⟩ := hrel
    by_cases hlt : k < st
    · have hkI : (k : Int) < (st : Int) := by omega
      have hk0 : (0 : Int) ≤ (k : Int) := by omega
      have hkd : decide ((k : Int) < (st : Int)) = true := by simpa using hkI
      have HIT := Go.Lib.hid (show mspr s (allL (itM s f k)) (itM s f k) = itM s f (k + 1) from rfl)
      replace P := Go.Lib.hid P; replace V := Go.Lib.hid V; replace hB := Go.Lib.hid hB
      go_wp2_with (first
        | go_skip
        | (go_at_call 26; (refine (HP.out _ _ _ _ P.out V.out).mono ?_); rw [HIT.out]; rintro o w4 ⟨rfl, hb⟩; replace P := Go.Lib.hid (row_next hb P.out); replace V := Go.Lib.hid (row_next hb V.out); replace hB := Go.Lib.hid (below_next hB.out hb); clear hb)
        | ((with_reducible refine wlOp (.store 52 (.tmp 9) (.tmp 31)) rfl ?_); refine wpList_storeall rfl 52 (.tmp 9) (.tmp 31) rfl vb rfl 64 (blf (itM s f k)) (blf (itM s f (k + 1))) rfl 52 size_b88 V.out (fun i _ => blf_one _ i) ?_; replace P := Go.Lib.hid (row_set' (g := vb) (by omega) P.out (vrow 64 (blf (itM s f (k + 1))))); replace V := Go.Lib.hid (row_set V.out (vrow 64 (blf (itM s f (k + 1))))); replace hB := Go.Lib.hid (Below_setRow hB.out (show w.heap.size ≤ vb by omega) (vrow 64 (blf (itM s f (k + 1)))))))
      go_roundw
      case rel => exact ⟨k + 1, by omega, by go_num, P.out, V.out, hB.out⟩
      case measure => simp [intOf]; omega
    · obtain rfl : k = st := by omega
      have hkd : decide ((k : Int) < (k : Int)) = false := by simp
      replace P := Go.Lib.hid P; replace V := Go.Lib.hid V; replace hB := Go.Lib.hid hB
      go_wp2_with (first
        | go_skip
        | (go_at_call 27; (refine (HLL.out _ _ _ V.out).mono ?_); rintro o w5 ⟨v, rfl, hO, hb⟩; have hbs := hB.out.size; replace hB := Go.Lib.hid (below_next hB.out hb); clear hb))
      go_ret2
      exact ⟨v, rfl, ⟨own_mono hbs hO.own⟩, hB.out⟩
end Go.Proofs.YthienbbecbakjaaDoor
namespace Go.Proofs.YthienbbecbakjaaDoor
open Go.RowKit
set_option maxRecDepth 100000
set_option linter.unusedVariables false
set_option linter.unusedSimpArgs false
set_option maxHeartbeats 2000000 in
theorem spc_of (s : Sh) (D n : Nat) (px py : Nat → Int) (c : Int) (e : ErrE) (R : Nat → Value → World → Prop) (w : World) (hE : Errs e w) (h2 : w.heap[D]? = some (.cells (vrow (n * 2) (spf px py)) 61)) (HS0 : ∀ w, Errs e w → w.heap[D]? = some (.cells (vrow (n * 2) (spf px py)) 61) → Calls Tryd.prog 17 #[.agg s.row, .slice (some ⟨D, 0, none⟩) n n, .int .i64 1] w fun o w' => ∃ v, o = .returned (.tuple #[v, .int .i64 c]) ∧ R w.heap.size v w' ∧ Below w.heap.size w w') : Calls Tryd.prog 12 #[.agg s.row, .slice (some ⟨D, 0, none⟩) n n] w fun o w' => ∃ v B, o = .returned (.tuple #[v, .int .i64 c]) ∧ w.heap.size ≤ B ∧ R B v w' ∧ Below w.heap.size w w' := by
  have HS := Go.Lib.hid HS0
  clear HS0
  have P : Hid ((w.alloc (.cells (vrow 266 s.at) 37)).heap[w.heap.size]? = some (.cells (vrow 266 s.at) 37)) := heap_at _ _ _ (by simp)
  have L : Hid ((w.alloc (.cells (vrow 266 s.at) 37)).heap[D]? = some (.cells (vrow (n * 2) (spf px py)) 61)) := heap_past _ _ _ _ (row_lt h2) h2
  have hB : Hid (Below w.heap.size w (w.alloc (.cells (vrow 266 s.at) 37))) := Go.Lib.hid ((Below.refl w.heap.size w).alloc (by simp <;> omega) _)
  clear h2
  go_enter Tryd.func12, Tryd.ntmps12
  go_wp2_with (first
    | go_skip
    | ((with_reducible refine wlAt 6 rfl ?_); refine wpList_loadall rfl 37 (.tmp 2) rfl _ rfl 266 s.at 37 _ Tryd.underlying37 rfl size_sheet P.out ?_)
    | (go_at_call 17; (refine (HS.out _ (hE.next hB.out) L.out).mono ?_); rintro o w1 ⟨v, rfl, hR, hb⟩; have hsz := hB.out.size; replace hB := Go.Lib.hid (below_next hB.out hb); clear hb))
  go_ret2
  exact ⟨v, _, rfl, hsz, hR, hB.out⟩
end Go.Proofs.YthienbbecbakjaaDoor
namespace Go.Proofs.YthienbbecbakjaaDoor
open Go.RowKit
set_option maxRecDepth 100000
set_option linter.unusedVariables false
set_option linter.unusedSimpArgs false
set_option maxHeartbeats 2000000 in
theorem toSpotS_new (ao : Option Addr) (n cap : Nat) (px py : Nat → Int) (w : World) (hn : n ≤ 1048576) (hp : PathC w ao n px py) : Calls Tryd.prog 11 #[.slice ao n cap] w fun e w' => e = .returned (.slice (some ⟨w.heap.size, 0, none⟩) n n) ∧ w'.heap[w.heap.size]? = some (.cells (vrow (n * 2) (spf px py)) 61) ∧ Below w.heap.size w w' := by
  have H0 := Go.Lib.hid hp
  have HP := Go.Lib.hid hp
  have hB := Go.Lib.hid (Below.refl w.heap.size w)
  clear hp
  go_enter Tryd.func11, Tryd.ntmps11
  go_wp2_with (first
    | go_skip
    | ((with_reducible refine wlAt 7 rfl ?_); refine wpList_make2 rfl (.tmp 6) (.tmp 6) _ rfl 61 Tryd.underlying34 info_sp2 n rfl rfl hn ?_; have R := Go.Lib.hid (heap_at w (.cells (vrow (n * 2) fun _ => .int .i8 0) 61) _ rfl); replace hB := Go.Lib.hid (hB.out.alloc (Nat.le_refl _) (.cells (vrow (n * 2) fun _ => .int .i8 0) 61)); replace HP := Go.Lib.hid (HP.out.next ((Below.refl w.heap.size w).alloc (Nat.le_refl _) (.cells (vrow (n * 2) fun _ => .int .i8 0) 61)))))
  generalize World.alloc w _ = W1 at R hB HP ⊢
  go_loopw [4] (fun iv wr => ∃ k : Nat, k ≤ n ∧ iv = .int .i64 k ∧ wr.heap[w.heap.size]? = some (.cells (vrow (n * 2) (spk px py k)) 61) ∧ PathC wr ao n px py ∧ Below w.heap.size w wr) (fun iv _ => n - (intOf iv).toNat)
  case atStart => exact ⟨0, by omega, rfl, by rw [spk_0]; exact R.out, HP.out, hB.out⟩
  case round =>
    clear R HP hB
    obtain ⟨k, hk, rfl, R, HP, hB⟩ := hrel
    replace R := Go.Lib.hid R; replace hB := Go.Lib.hid hB
    by_cases hlt : k < n
    · obtain ⟨b, off, rfl, hbl, hc⟩ := HP (by omega)
      have hbw : b < w.heap.size := by
        obtain ⟨b0, o0, he, hb0, _⟩ := H0.out (by omega)
        simp only [Option.some.injEq, Addr.mk.injEq] at he
        rw [he.1]; exact hb0
      obtain ⟨hc0, hc1⟩ := hc k hlt
      have HC0 := Go.Lib.hid hc0; have HC1 := Go.Lib.hid hc1; replace HP := Go.Lib.hid HP
      have hsz := hB.out.size
      have hkI : (k : Int) < (n : Int) := by omega
      have hnl : (n : Int) ≤ 1048576 := by omega
      clear hc hc0 hc1
      go_wp2_with (first
        | go_skip
        | ((with_reducible refine wlAt 19 rfl ?_); refine wpList_loadc rfl 63 (.tmp 18) rfl b (off + k * 2) rfl (.int .i8 (px k)) (.int .i8 (py k)) _ Tryd.underlying63 rfl size_lspot2 HC0.out HC1.out ?_)
        | (go_at_call 31; (refine (toSp_any (px k) (py k) _).mono ?_); rintro o w1 ⟨rfl, hb⟩; replace R := Go.Lib.hid (row_next hb R.out); replace HP := Go.Lib.hid (HP.out.next hb); replace hB := Go.Lib.hid (below_next hB.out hb); clear hb HC0 HC1)
        | ((with_reducible refine wlOp (.store 61 (.tmp 21) (.tmp 20)) rfl ?_); refine wpList_storemid rfl 61 (.tmp 21) (.tmp 20) rfl w.heap.size (k * 2) rfl (n * 2) 2 (spk px py k) (spAt (px k) (py k)) rfl 61 size_spot R.out (by omega) (fun i _ => spAt_one2 _ _ i) ?_; rw [spk_step]; replace HP := Go.Lib.hid (HP.out.set0 (show b ≠ w.heap.size by omega) (vrow (n * 2) (spk px py (k + 1)))); replace R := Go.Lib.hid (row_set R.out (vrow (n * 2) (spk px py (k + 1)))); replace hB := Go.Lib.hid (Below_setRow hB.out (Nat.le_refl _) (vrow (n * 2) (spk px py (k + 1))))))
      go_roundw
      case rel => exact ⟨k + 1, by omega, by go_num, R.out, HP.out, hB.out⟩
      case measure => simp [intOf]; omega
    · obtain rfl : k = n := by omega
      have hd : decide ((k : Int) < (k : Int)) = false := by simp
      replace HP := Go.Lib.hid HP
      go_wp2
      go_ret
      exact ⟨rfl, by rw [← spk_n]; exact R.out, hB.out⟩
theorem PO.lo {w : World} {v : Value} {n : Nat} {px py : Nat → Int} {B B' : Nat} (h : PO w v n px py B) (hb : B' ≤ B) : PO w v n px py B' := by
  obtain ⟨ao, c, rfl, hr⟩ := h
  refine ⟨ao, c, rfl, hr.imp id ?_⟩
  rintro ⟨g, N, f, h1, h2, h3, h4, h5⟩
  exact ⟨g, N, f, h1, by omega, h3, h4, h5⟩
theorem PO.set {w : World} {v : Value} {n : Nat} {px py : Nat → Int} {B g : Nat} (h : PO w v n px py B) (hb : g < B) (cs : Array Value) : PO (w.setRow g cs) v n px py B := by
  obtain ⟨ao, c, rfl, hr⟩ := h
  refine ⟨ao, c, rfl, hr.imp id ?_⟩
  rintro ⟨D, N, f, h1, h2, h3, h4, h5⟩
  exact ⟨D, N, f, h1, h2, h3, row_set' (show D ≠ g by omega) h4 cs, h5⟩
theorem PO.none {w : World} {B : Nat} {px py : Nat → Int} : PO w (.slice none 0 0) 0 px py B := ⟨_, _, rfl, .inl rfl⟩
theorem SlP.none {w : World} {v : Value} {L : Nat} {px py : Nat → Int} (h : ∃ ao cp, v = .slice ao 0 cp) : SlP w v 0 px py L := by
  obtain ⟨ao, c, rfl⟩ := h
  exact ⟨ao, c, rfl, fun h => absurd h (by omega)⟩
end Go.Proofs.YthienbbecbakjaaDoor
namespace Go.Proofs.YthienbbecbakjaaDoor
open Go.RowKit
set_option maxRecDepth 100000
theorem fitW' (s : Sh) (ho : okI s = true) : ∃ a c : Nat, s.wide = a ∧ s.high = c ∧ (1 ≤ a ∧ a ≤ 8) ∧ (1 ≤ c ∧ c ≤ 8) := by
  simp only [okI, Bool.and_eq_true, decide_eq_true_eq] at ho
  obtain ⟨⟨a1, a2⟩, ⟨a3, a4⟩, _⟩ := ho
  exact ⟨s.wide.toNat, s.high.toNat, by omega, by omega, by omega, by omega⟩
end Go.Proofs.YthienbbecbakjaaDoor
