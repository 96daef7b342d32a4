import Derived.Test.YtmcpaangofdmpaaDoorPairK
import Derived.Test.YtmcpaangofdmpaaDoorTurn
namespace Go.Proofs.YtmcpaangofdmpaaDoor
open Go.RowKit
set_option maxRecDepth 100000
set_option linter.unusedVariables false
set_option linter.unusedSimpArgs false
attribute [local go_sem] Oper.semAt_some
theorem size_ftP : (Tryd.prog.info? 113).map (·.size) = some 1 := by kernel_rfl
theorem size_mtP : (Tryd.prog.info? 150).map (·.size) = some 1 := by kernel_rfl
theorem size_pltP : (Tryd.prog.info? 102).map (·.size) = some 1 := by kernel_rfl
theorem size_prtP : (Tryd.prog.info? 130).map (·.size) = some 4 := by kernel_rfl
theorem rw_prt : (Tryd.prog.underlying 130).map (·.isRow) = some true := by kernel_rfl
theorem rw_mtP : (Tryd.prog.underlying 150).map (·.isRow) = some false := by kernel_rfl
theorem rw_pltP : (Tryd.prog.underlying 102).map (·.isRow) = some false := by kernel_rfl
theorem zero_prtP : ∀ w, (zeroValue 130).run Tryd.prog w = .ok (.agg #[.int .i8 0, .int .i8 0, .int .i8 0, .int .i8 0]) w := fun _ => by kernel_rfl
theorem zero_boolP : ∀ w, (zeroValue 4).run Tryd.prog w = .ok (.bool false) w := fun _ => by kernel_rfl
theorem info_prt : (Tryd.prog.info? 130).map (fun i => (i.zero, i.size, i.bytes)) = some (some (.agg #[.int .i8 0, .int .i8 0, .int .i8 0, .int .i8 0]), 4, 4) := by kernel_rfl
theorem built_prt (x y u v : Int) : Tryd.prog.built 130 [(0, .agg #[.int .i8 x, .int .i8 y]), (1, .agg #[.int .i8 u, .int .i8 v])] = some #[.int .i8 x, .int .i8 y, .int .i8 u, .int .i8 v] := by kernel_rfl
/-- the cells of a pair -/
def p4 (x y u v : Int) : Nat → Value := fun i => if i = 0 then .int .i8 x else if i = 1 then .int .i8 y else if i = 2 then .int .i8 u else .int .i8 v
theorem p4_row (x y u v : Int) : (#[.int .i8 x, .int .i8 y, .int .i8 u, .int .i8 v] : Array Value) = vrow 4 (p4 x y u v) := rfl
theorem p4_one (x y u v : Int) (i : Nat) : (p4 x y u v i).oneCell' = true := by unfold p4; split <;> (try split) <;> (try split) <;> rfl
/-- the cells of pairs, by their first cells -/
def vals4 (ax : Int) (d : Bool) (l : List Sp8) : List Value := l.flatMap fun p => [.int .i8 p.1.1, .int .i8 p.1.2, .int .i8 (prX ax d p.1.1), .int .i8 (prY ax d p.1.2)]
theorem vals4_app (ax : Int) (d : Bool) (l m : List Sp8) : vals4 ax d (l ++ m) = vals4 ax d l ++ vals4 ax d m := by simp [vals4]
theorem vals4_one (ax : Int) (d : Bool) (p : Sp8) : vals4 ax d [p] = [.int .i8 p.1.1, .int .i8 p.1.2, .int .i8 (prX ax d p.1.1), .int .i8 (prY ax d p.1.2)] := by simp [vals4]
theorem stL_len (good : Sp8 → Bool) (sg : Sp8 → Sp8) (l : List Sp8) : (stL good sg l).length ≤ l.length := by
  have : ∀ n (l : List Sp8), l.length = n → (stL good sg l).length ≤ l.length := by
    intro n
    induction n with
    | zero => intro l h; obtain rfl := List.length_eq_zero_iff.1 h; exact Nat.le_refl _
    | succ n ih =>
      intro l h
      obtain ⟨qs, p, rfl⟩ : ∃ qs p, l = qs ++ [p] := ⟨l.dropLast, l.getLast (by intro e; simp [e] at h), (List.dropLast_concat_getLast _).symm⟩
      have := ih qs (by simpa using h)
      rw [stL_app]
      unfold stp
      split <;> simp <;> omega
  exact this _ l rfl
theorem builtI {r n' : Nat} {P : Program} {ops : Array Oper} {rest : List Oper} {o : Oper} {a : Act} {w : World} {Q : Exit → Act → World → Prop} (hw : Region.wanted o (yielded ops a.tmps) = true) (ty : TypeId) (parts : List (Nat × Operand)) (ho : o.op = .build ty parts.toArray)
    (l : List (Nat × Value)) (hl : (parts.map fun p => (p.1, a.eval p.2)) = l) (cells : Array Value) (hc : P.built ty l = some cells)
    (h : wpListIn (Fence.wide.inRound r) n' P ops Q rest (a.put o.dst (.agg cells)) w) : wpListIn (Fence.wide.inRound r) n' P ops Q (o :: rest) a w := by
  have e : ((parts.toArray.map fun (i, x) => (i, a.eval x)).toList) = l := by rw [← hl]; simp
  exact valI hw (fun c hc => by rw [ho] at hc; cases hc) (by unfold execOp; simp only [ho, Sem.run_bind, run_build w ty _ cells (by rw [e, hc]), Result.andThen_ok, Sem.run_pure]) h
set_option maxRecDepth 100000 in
set_option maxHeartbeats 16000000 in
theorem pairs_gen (s : Sh) (ax : Int) (d : Bool) (pr : Int) (a c : Nat) (TF : FuncId) (w : World) (hf : s.fit)
    (HT0 : ∀ w, Calls Tryd.prog 74 #[.agg (vrow 3 (foAt ax d pr))] w fun e w' => e = .returned (.func (.func TF) #[] #[.pointer (some ⟨w.heap.size + 1, 0, none⟩)]) ∧ w'.heap[w.heap.size + 1]? = some (.cells (vrow 1 fun _ => .int .i8 (2 * ax - 1)) 22) ∧ Below w.heap.size w w')
    (hF : ∀ (xs : Array Value) (w : World), (callFunc TF xs).run Tryd.prog w = .ok (.enter TF xs) w)
    (hU : ∀ (x y : Nat) (b : Nat) W, x < 8 → y < 8 → W.heap[b]? = some (.cells (vrow 1 fun _ => .int .i8 (2 * ax - 1)) 22) → Calls Tryd.prog TF #[.agg (vrow 2 (spAt x y)), .pointer (some ⟨b, 0, none⟩)] W fun e w' => e = .returned (.agg (vrow 2 (spAt (prX ax d x) (prY ax d y)))) ∧ Below W.heap.size W w')
    (hv : (okI s && foldOk s ax d pr) = true) (hax : 1 ≤ ax ∧ ax ≤ 8) (ea : s.wide = a) (ec : s.high = c) (ha : a ≤ 8) (hc : c ≤ 8) :
    Calls Tryd.prog 67 #[.agg s.row, .agg (vrow 3 (foAt ax d pr))] w fun e w' => ∃ v, e = .returned v ∧ w'.ownsRow w.heap.size 130 4 v (prsL s a c ax d).length (vals4 ax d (prsL s a c ax d)) ∧ Below w.heap.size w w' := by
  have HM := Go.Lib.hid fun w => must_ok s ax d pr w hv
  have HT := Go.Lib.hid HT0; have HU := Go.Lib.hid hU; have HF := Go.Lib.hid hF
  obtain ⟨i0, hi, hz0, hz1, hz2⟩ := info_parts info_prt
  have zs := zero_spot
  have zp := zero_prtP
  have hasE : ∀ x y, hasB s x y = insB a c x y := fun x y => by unfold hasB insB; rw [ea, ec]
  have P : Hid (((w.alloc (.cells (vrow 266 s.at) 34)).alloc (.cells (vrow 3 (foAt ax d pr)) 38)).heap[w.heap.size]? = some (.cells (vrow 266 s.at) 34)) := heap_past _ _ _ _ (by simp <;> omega) (heap_at _ _ _ (by simp))
  have F : Hid (((w.alloc (.cells (vrow 266 s.at) 34)).alloc (.cells (vrow 3 (foAt ax d pr)) 38)).heap[w.heap.size + 1]? = some (.cells (vrow 3 (foAt ax d pr)) 38)) := heap_at _ _ _ (by simp)
  have hB : Hid (Below w.heap.size w ((w.alloc (.cells (vrow 266 s.at) 34)).alloc (.cells (vrow 3 (foAt ax d pr)) 38))) := Go.Lib.hid (((Below.refl w.heap.size w).alloc (by simp <;> omega) _).alloc (by simp <;> omega) _)
  clear hv HT0 hU hF
  refine (callsIn_wide (n := 9)).1 ?_
  refine callsIn_of_wp_marks Tryd.func67 rfl trivial ?_ rfl
  simp only [Tryd.ntmps67, List.size_toArray, List.length_cons, List.length_nil, Nat.reduceAdd, Nat.reduceSub, Array.replicate_succ, Array.replicate_zero, List.push_toArray, List.append_toArray, List.nil_append, List.cons_append]
  refine wpIn_wide.2 ?_
  go_wp2_with (first
    | go_skip
    | ((first | (with_reducible refine wlAt 11 rfl ?_) | (with_reducible refine wlAt 14 rfl ?_)); refine wpList_loadall rfl 38 (.tmp 3) rfl (w.heap.size + 1) rfl 3 (foAt ax d pr) 38 _ Tryd.underlying38 rfl size_fold F.out ?_)
    | ((with_reducible refine wlAt 12 rfl ?_); refine wpList_loadall rfl 34 (.tmp 2) rfl w.heap.size rfl 266 s.at 34 _ Tryd.underlying34 rfl size_sheet P.out ?_)
    | (go_at_call 112; (refine (HM.out _).mono ?_); rintro o w1 ⟨rfl, hb⟩; replace P := Go.Lib.hid (row_next hb P.out); replace F := Go.Lib.hid (row_next hb F.out); replace hB := Go.Lib.hid (below_next hB.out hb); clear hb)
    | (go_at_call 74; (refine (HT.out _).mono ?_); rintro o w2 ⟨rfl, hC, hb⟩; have hsb := hb.size; have lf := row_lt F.out; replace P := Go.Lib.hid (row_next hb P.out); replace hB := Go.Lib.hid (below_next hB.out hb); have C := Go.Lib.hid hC; have htb0 : w.heap.size + 1 < w1.heap.size + 1 := (by omega); clear hb hC F; obtain ⟨tb, htb⟩ : ∃ tb, w1.heap.size + 1 = tb := ⟨_, rfl⟩; rw [htb] at C htb0 ⊢; clear htb)
    | ((with_reducible refine wlOp (.store 113 (.tmp 5) (.tmp 15)) rfl ?_); refine wpList_store1 rfl 113 (.tmp 5) (.tmp 15) rfl w2.heap.size 0 rfl 1 (fun _ => .nilFunc) (.func (.func TF) #[] #[.pointer (some ⟨tb, 0, none⟩)]) rfl 113 size_ftP (heap_at w2 (.cells (vrow 1 fun _ => .nilFunc) 113) _ rfl) (by omega) rfl ?_; rw [vrow_over_all, setRow_at _ _ _ _ _ rfl]))
  rw [run_makeMap]
  go_wp2_with (first
    | go_skip
    | ((with_reducible refine wlAt 18 rfl ?_); refine Shut.out ?_))
  refine (id ?_ : Shut _)
  unfold Shut
  have lP := row_lt P.out; have lC := row_lt C.out
  have FN : ((((w2.alloc (.cells (vrow 1 fun _ => .func (.func TF) #[] #[.pointer (some ⟨tb, 0, none⟩)]) 113)).alloc (.cells #[.slice none 0 0] 102)).alloc (.map #[] 0)).alloc (.cells #[.map (some (w2.heap.size + 1 + 1))] 150)).heap[w2.heap.size]? = some (.cells (vrow 1 fun _ => .func (.func TF) #[] #[.pointer (some ⟨tb, 0, none⟩)]) 113) := (heap_past _ _ _ _ (by first | omega | (simp <;> omega)) (heap_past _ _ _ _ (by first | omega | (simp <;> omega)) (heap_past _ _ _ _ (by first | omega | (simp <;> omega)) (heap_at _ _ _ (by simp)))))
  have LB : ((((w2.alloc (.cells (vrow 1 fun _ => .func (.func TF) #[] #[.pointer (some ⟨tb, 0, none⟩)]) 113)).alloc (.cells #[.slice none 0 0] 102)).alloc (.map #[] 0)).alloc (.cells #[.map (some (w2.heap.size + 1 + 1))] 150)).heap[w2.heap.size + 1]? = some (.cells (vrow 1 fun _ => .slice none 0 0) 102) := (heap_past _ _ _ _ (by first | omega | (simp <;> omega)) (heap_past _ _ _ _ (by first | omega | (simp <;> omega)) (heap_at _ _ _ (by simp))))
  have MV : ((((w2.alloc (.cells (vrow 1 fun _ => .func (.func TF) #[] #[.pointer (some ⟨tb, 0, none⟩)]) 113)).alloc (.cells #[.slice none 0 0] 102)).alloc (.map #[] 0)).alloc (.cells #[.map (some (w2.heap.size + 1 + 1))] 150)).heap[w2.heap.size + 1 + 1 + 1]? = some (.cells (vrow 1 fun _ => .map (some (w2.heap.size + 1 + 1))) 150) := heap_at _ _ _ (by simp)
  have OM : ((((w2.alloc (.cells (vrow 1 fun _ => .func (.func TF) #[] #[.pointer (some ⟨tb, 0, none⟩)]) 113)).alloc (.cells #[.slice none 0 0] 102)).alloc (.map #[] 0)).alloc (.cells #[.map (some (w2.heap.size + 1 + 1))] 150)).ownsMap Tryd.prog 130 (plainElem (H := Unit) Tryd.prog 4) (w2.heap.size + 1 + 1) 0 (.map []) := by
    have h := (World.ownsMap_made (H := Unit) ((w2.alloc (.cells (vrow 1 fun _ => .func (.func TF) #[] #[.pointer (some ⟨tb, 0, none⟩)]) 113)).alloc (.cells #[.slice none 0 0] 102)) Tryd.prog 130 (plainElem Tryd.prog 4)).alloc (.cells #[.map (some (w2.heap.size + 1 + 1))] 150)
    simpa using h
  replace P : ((((w2.alloc (.cells (vrow 1 fun _ => .func (.func TF) #[] #[.pointer (some ⟨tb, 0, none⟩)]) 113)).alloc (.cells #[.slice none 0 0] 102)).alloc (.map #[] 0)).alloc (.cells #[.map (some (w2.heap.size + 1 + 1))] 150)).heap[w.heap.size]? = some (.cells (vrow 266 s.at) 34) := (heap_past _ _ _ _ (by first | omega | (simp <;> omega)) (heap_past _ _ _ _ (by first | omega | (simp <;> omega)) (heap_past _ _ _ _ (by first | omega | (simp <;> omega)) (heap_past _ _ _ _ (by first | omega | (simp <;> omega)) P.out))))
  replace C : ((((w2.alloc (.cells (vrow 1 fun _ => .func (.func TF) #[] #[.pointer (some ⟨tb, 0, none⟩)]) 113)).alloc (.cells #[.slice none 0 0] 102)).alloc (.map #[] 0)).alloc (.cells #[.map (some (w2.heap.size + 1 + 1))] 150)).heap[tb]? = some (.cells (vrow 1 fun _ => .int .i8 (2 * ax - 1)) 22) := (heap_past _ _ _ _ (by first | omega | (simp <;> omega)) (heap_past _ _ _ _ (by first | omega | (simp <;> omega)) (heap_past _ _ _ _ (by first | omega | (simp <;> omega)) (heap_past _ _ _ _ (by first | omega | (simp <;> omega)) C.out))))
  replace hB : Below w.heap.size w ((((w2.alloc (.cells (vrow 1 fun _ => .func (.func TF) #[] #[.pointer (some ⟨tb, 0, none⟩)]) 113)).alloc (.cells #[.slice none 0 0] 102)).alloc (.map #[] 0)).alloc (.cells #[.map (some (w2.heap.size + 1 + 1))] 150)) := (((hB.out.alloc hB.out.size _).alloc (by have := hB.out.size; simp; omega) _).alloc (by have := hB.out.size; simp; omega) _).alloc (by have := hB.out.size; simp; omega) _
  obtain ⟨Wn, hWn⟩ : ∃ Wn, ((((w2.alloc (.cells (vrow 1 fun _ => .func (.func TF) #[] #[.pointer (some ⟨tb, 0, none⟩)]) 113)).alloc (.cells #[.slice none 0 0] 102)).alloc (.map #[] 0)).alloc (.cells #[.map (some (w2.heap.size + 1 + 1))] 150)) = Wn := ⟨_, rfl⟩
  have hsn : Wn.heap.size = w2.heap.size + 1 + 1 + 1 + 1 := by rw [← hWn]; simp
  rw [hWn] at FN LB MV OM P C hB ⊢
  clear hWn
  generalize w2.heap.size = q at *
  replace FN := Go.Lib.hid FN; replace LB := Go.Lib.hid LB; replace MV := Go.Lib.hid MV; replace OM := Go.Lib.hid OM; replace P := Go.Lib.hid P; replace C := Go.Lib.hid C; replace hB := Go.Lib.hid hB
  go_wp2_with (first
    | ((with_reducible refine wlAt 18 rfl ?_); refine wpList_load1 rfl 22 (.tmp 17) rfl (w.heap.size) 0 rfl 266 s.at _ _ Tryd.underlying22 rfl P.out (by omega) ?_; rw [Sh.at_0, ea])
    | ((with_reducible refine wlAt 20 rfl ?_); refine wpList_load1 rfl 22 (.tmp 19) rfl (w.heap.size) 1 rfl 266 s.at _ _ Tryd.underlying22 rfl P.out (by omega) ?_; rw [Sh.at_1, ec])
    | (go_at_call 113; refine (cells_any _ _ _).mono ?_; rintro e w5 ⟨rfl, rfl⟩))
  have c1 := heap_at (Wn.alloc (.cells #[.int .i8 a] 22)) (.cells #[.int .i8 c] 22) (Wn.heap.size + 1) (by simp)
  have c2 := heap_past (Wn.alloc (.cells #[.int .i8 a] 22)) (.cells #[.int .i8 c] 22) _ Wn.heap.size (by simp) (heap_at Wn (.cells #[.int .i8 a] 22) _ rfl)
  have hB1 : Below Wn.heap.size Wn ((Wn.alloc (.cells #[.int .i8 a] 22)).alloc (.cells #[.int .i8 c] 22)) := ((Below.refl _ _).alloc (Nat.le_refl _) _).alloc (by simp) _
  have hs0 : ((Wn.alloc (.cells #[.int .i8 a] 22)).alloc (.cells #[.int .i8 c] 22)).heap.size = q + 6 := by simp; omega
  have OM0 := OM.out.kept (grown_next (grown_refl Wn none) hB1) (by simp)
  obtain ⟨W0, hW0⟩ : ∃ W0, (Wn.alloc (.cells #[.int .i8 a] 22)).alloc (.cells #[.int .i8 c] 22) = W0 := ⟨_, rfl⟩
  rw [hW0] at c1 c2 hB1 hs0 OM0 ⊢
  clear hW0
  rw [hsn] at c1 c2
  try rw [hsn]
  replace P := row_next hB1 P.out; replace C := row_next hB1 C.out; replace FN := row_next hB1 FN.out; replace LB := row_next hB1 LB.out; replace MV := row_next hB1 MV.out; replace hB := below_next hB.out hB1
  clear hB1 hsn OM
  refine wp_cellsN (d := 8) (q + 1 + 1 + 1 + 1 + 1) (q + 1 + 1 + 1 + 1) a c ha hc rfl c1 c2
    (fun pre W => ∃ v, ∃ D : DataW Unit, W.heap[q + 1]? = some (.cells (vrow 1 fun _ => v) 102) ∧ W.ownsRow W0.heap.size 130 4 v (stL (goodP s a c ax d) (sgP ax d) (pre.map toSp)).length (vals4 ax d (stL (goodP s a c ax d) (sgP ax d) (pre.map toSp))) ∧ W.ownsMap Tryd.prog 130 (plainElem Tryd.prog 4) (q + 1 + 1) (stL (goodP s a c ax d) (sgP ax d) (pre.map toSp)).length D ∧ Lk D (metS ax d (stL (goodP s a c ax d) (sgP ax d) (pre.map toSp))) ∧ W.heap[q + 1 + 1 + 1]? = some (.cells (vrow 1 fun _ => .map (some (q + 1 + 1))) 150) ∧ W.heap[q]? = some (.cells (vrow 1 fun _ => .func (.func TF) #[] #[.pointer (some ⟨tb, 0, none⟩)]) 113) ∧ W.heap[tb]? = some (.cells (vrow 1 fun _ => .int .i8 (2 * ax - 1)) 22) ∧ W.heap[w.heap.size]? = some (.cells (vrow 266 s.at) 34) ∧ Below w.heap.size w W)
    (fun _ _ _ => False)
    (own_ex fun v => own_ex fun D => OwnFrom.and (own_row (by omega)) (OwnFrom.and (own_ownsRowC (fun _ => v) (fun pre : List (SpN a c) => (stL (goodP s a c ax d) (sgP ax d) (pre.map toSp)).length) (fun pre => vals4 ax d (stL (goodP s a c ax d) (sgP ax d) (pre.map toSp)))) (OwnFrom.and (own_map (fun pre : List (SpN a c) => (stL (goodP s a c ax d) (sgP ax d) (pre.map toSp)).length) (fun _ => D) (by omega)) (OwnFrom.and (own_pure _) (OwnFrom.and (own_row (by omega)) (OwnFrom.and (own_row (by omega)) (OwnFrom.and (own_row (by omega)) (OwnFrom.and (own_row (by omega)) (ownFrom_below (Nat.le_refl _) (by omega))))))))))
    (fun c => own_pure _)
    ⟨_, _, LB, World.ownsRow_nil _ _ _ _, OM0, Lk.nil, MV, FN, C, P, hB⟩ ?assign ?body ?done ?stop
  case assign =>
    intro l x W K hK
    simp only [List.setIfInBounds_toArray, List.set_cons_succ, List.set_cons_zero] at hK ⊢
    gi_wp2_with (refine wpListIn_storeall rfl 111 (.tmp 8) (.tmp 22) rfl _ rfl 2 (spAt 0 0) (spAt x.1.1 x.1.2) rfl 111 size_spot (heap_at _ _ _ rfl) (fun i _ => spAt_one _ _ i) ?_; rw [setRow_at _ _ _ _ _ rfl])
    exact hK
  case body =>
    rintro l pre ⟨⟨x, y⟩, hx, hy⟩ Wb W Bx hK hBx R hsz ⟨v, D, LB, O, OM, hLk, MV, FN, C, P, hB⟩ hlen
    simp only [List.setIfInBounds_toArray, List.set_cons_succ, List.set_cons_zero] at R ⊢
    replace hx : x < a := hx
    replace hy : y < c := hy
    have hx8 : x < 8 := by omega
    have hy8 : y < 8 := by omega
    have hts : toSp (⟨(x, y), hx, hy⟩ : SpN a c) = ⟨(x, y), hx8, hy8⟩ := Subtype.ext (toSp_val ha hc _)
    have hap : stL (goodP s a c ax d) (sgP ax d) ((pre ++ [(⟨(x, y), hx, hy⟩ : SpN a c)]).map toSp) = stp (goodP s a c ax d) (sgP ax d) (stL (goodP s a c ax d) (sgP ax d) (pre.map toSp)) ⟨(x, y), hx8, hy8⟩ := by
      rw [List.map_append, List.map_cons, List.map_nil, stL_app, hts]
    have hle : (stL (goodP s a c ax d) (sgP ax d) (pre.map toSp)).length ≤ pre.length := by
      have := stL_len (goodP s a c ax d) (sgP ax d) (pre.map toSp); rw [List.length_map] at this; exact this
    have hac : a * c ≤ 64 := Nat.mul_le_mul ha hc
    clear hts
    generalize (stL (goodP s a c ax d) (sgP ax d) (pre.map toSp)) = L at *
    have hme := fun h => metS_eq (a := a) (c := c) (ax := ax) (d := d) (L := L) (q := ⟨(x, y), hx8, hy8⟩) ha hc h
    have hgo : goodP s a c ax d ⟨(x, y), hx8, hy8⟩ = (insB a c (prX ax d x) (prY ax d y) && !(waxB s x y) && !(waxB s (prX ax d x).toNat (prY ax d y).toNat)) := rfl
    have hLa := fun l hl => hLk.app (⟨(x, y), hx8, hy8⟩ : Sp8) (l := l) hl
    have hrl := row_lt R
    have hUx := fun b W h => HU.out x y b W hx8 hy8 h
    have HUx := Go.Lib.hid hUx
    have HH := Go.Lib.hid fun w => has_any s (prX ax d x) (prY ax d y) w
    rw [hasE] at HH
    have HX := Go.Lib.hid fun w => waxed_any s x y hx8 hy8 w
    have hpr : insB a c (prX ax d x) (prY ax d y) = true → ∃ i j : Nat, prX ax d x = i ∧ prY ax d y = j ∧ i < 8 ∧ j < 8 := fun h => by
      have := ins_ltP h (by omega) (by omega)
      exact ⟨(prX ax d x).toNat, (prY ax d y).toNat, by omega, by omega, by omega, by omega⟩
    clear hUx HU HM HT
    simp only at hme hLa
    have HME := Go.Lib.hid hme; have HLA := Go.Lib.hid hLa; have HGO := Go.Lib.hid hgo; have HPR := Go.Lib.hid hpr; have HAP := Go.Lib.hid hap; have HLK := Go.Lib.hid hLk
    clear hme hLa hgo hpr hap hLk hasE
    have hCk := Go.Lib.hid ((CkB.start (N := W0.heap.size) (b1 := q + 1 + 1 + 1 + 1 + 1) (b2 := q + 1 + 1 + 1 + 1) (X := Wb) (by omega) (by omega)).step (grown_next (grown_refl Wb none) hK) (fun j e => by cases e))
    replace R := Go.Lib.hid R; replace P := Go.Lib.hid P; replace C := Go.Lib.hid C; replace FN := Go.Lib.hid FN; replace LB := Go.Lib.hid LB; replace MV := Go.Lib.hid MV; replace O := Go.Lib.hid O; replace OM := Go.Lib.hid OM; replace hB := Go.Lib.hid hB
    obtain ⟨Wc, hWc⟩ : ∃ Wc : World, Wc = W := ⟨_, rfl⟩
    rw [← hWc] at R P C FN LB MV O OM hB hCk hrl ⊢
    clear hWc hK
    obtain ⟨u, hu⟩ : ∃ u, prX ax d x = u := ⟨_, rfl⟩
    obtain ⟨z, hz⟩ : ∃ z, prY ax d y = z := ⟨_, rfl⟩
    rw [hu, hz] at HME HLA HGO HPR HH HUx
    replace hu := Go.Lib.hid hu; replace hz := Go.Lib.hid hz
    gi_wp2_with (first
      | ((with_reducible refine wlAtB 23 rfl ?_); refine loadoneB rfl 113 (.tmp 5) rfl q 0 rfl 1 (fun _ => .func (.func TF) #[] #[.pointer (some ⟨tb, 0, none⟩)]) 113 _ Tryd.underlying113 rfl FN.out (by omega) ?_)
      | ((with_reducible refine wlAtB 24 rfl ?_); refine loadmidB rfl 111 (.tmp 8) rfl Bx 0 rfl 2 2 (spAt x y) 111 _ Tryd.underlying111 rfl size_spot R.out (by omega) ?_; simp only [Nat.zero_add]))
    rw [HF.out]
    simp only [Oper.uponIn]
    refine ⟨trivial, fun _ => by decide, ?_⟩
    refine (callsFW (ro := some _) (HUx.out _ _ C.out)).mono ?_
    rintro e w1 ⟨rfl, hb⟩
    simp only [Act.put, List.setIfInBounds_toArray, List.set_cons_succ, List.set_cons_zero]
    replace hCk := Go.Lib.hid (hCk.out.step (grown_next (grown_refl Wc none) hb) (fun j e => by cases e))
    replace O := Go.Lib.hid (O.out.kept (grown_next (grown_refl Wc none) hb) (by cases hv : Value.ownBlock _ <;> simp))
    replace OM := Go.Lib.hid (OM.out.kept (grown_next (grown_refl Wc none) hb) (by simp))
    replace R := Go.Lib.hid (row_next hb R.out); replace P := Go.Lib.hid (row_next hb P.out); replace C := Go.Lib.hid (row_next hb C.out); replace FN := Go.Lib.hid (row_next hb FN.out); replace LB := Go.Lib.hid (row_next hb LB.out); replace MV := Go.Lib.hid (row_next hb MV.out); replace hB := Go.Lib.hid (below_next hB.out hb)
    have hrl2 := hb.size
    clear hb
    gi_wp2_with (first
      | ((with_reducible refine wlOpB (.store 111 (.tmp 9) (.tmp 25)) rfl ?_); refine wpListIn_storeall rfl 111 (.tmp 9) (.tmp 25) rfl _ rfl 2 (spAt 0 0) (spAt u z) rfl 111 size_spot (heap_at _ _ _ rfl) (fun i _ => spAt_one _ _ i) ?_; rw [setRow_at _ _ _ _ _ rfl])
      | ((with_reducible refine wlAtB 26 rfl ?_); refine Shut.out ?_))
    refine (id ?_ : Shut _)
    unfold Shut
    have hq0 : (w1.alloc (.cells (vrow 2 (spAt u z)) 111)).heap[w1.heap.size]? = some (.cells (vrow 2 (spAt u z)) 111) := heap_at _ _ _ rfl
    have l1 := row_lt R.out; have l2 := row_lt P.out; have l3 := row_lt C.out; have l4 := row_lt FN.out; have l5 := row_lt LB.out; have l6 := row_lt MV.out
    replace hCk := Go.Lib.hid (hCk.out.step (World.grownBy_alloc w1 (.cells (vrow 2 (spAt u z)) 111) none) (fun j e => by cases e))
    replace O := Go.Lib.hid (O.out.alloc (.cells (vrow 2 (spAt u z)) 111))
    replace OM := Go.Lib.hid (OM.out.alloc (.cells (vrow 2 (spAt u z)) 111))
    replace R := Go.Lib.hid (heap_past w1 (.cells (vrow 2 (spAt u z)) 111) _ _ l1 R.out); replace P := Go.Lib.hid (heap_past w1 (.cells (vrow 2 (spAt u z)) 111) _ _ l2 P.out); replace C := Go.Lib.hid (heap_past w1 (.cells (vrow 2 (spAt u z)) 111) _ _ l3 C.out); replace FN := Go.Lib.hid (heap_past w1 (.cells (vrow 2 (spAt u z)) 111) _ _ l4 FN.out); replace LB := Go.Lib.hid (heap_past w1 (.cells (vrow 2 (spAt u z)) 111) _ _ l5 LB.out); replace MV := Go.Lib.hid (heap_past w1 (.cells (vrow 2 (spAt u z)) 111) _ _ l6 MV.out)
    replace hB := Go.Lib.hid (hB.out.alloc hB.out.size (.cells (vrow 2 (spAt u z)) 111))
    have hq1 : q + 6 ≤ w1.heap.size := by omega
    have hrl3 : Wc.heap.size ≤ (w1.alloc (.cells (vrow 2 (spAt u z)) 111)).heap.size := by simp; omega
    obtain ⟨Wd, hWd⟩ : ∃ Wd, (w1.alloc (.cells (vrow 2 (spAt u z)) 111)) = Wd := ⟨_, rfl⟩
    obtain ⟨pb, hpb⟩ : ∃ pb, w1.heap.size = pb := ⟨_, rfl⟩
    rw [hWd] at hCk O OM R P C FN LB MV hB hrl3 hq0 ⊢
    rw [hpb] at hq0 hq1 ⊢
    have Q := Go.Lib.hid hq0
    clear hWd hpb hq0 l1 l2 l3 l4 l5 l6 hrl2 hrl
    cases hin : insB a c u z
    · have HN := Go.Lib.hid (show stp (goodP s a c ax d) (sgP ax d) L ⟨(x, y), hx8, hy8⟩ = L by unfold stp; rw [HGO.out, hin]; rfl)
      rw [hin] at HH
      clear hin
      gi_wp2_with (first
        | ((with_reducible refine wAtI 26 rfl ?_); refine ldmI 34 (.tmp 2) rfl (by first | exact want_n rfl | exact want_g _ _ _ rfl rfl rfl) w.heap.size 0 rfl 266 266 s.at _ rw_sheet size_sheet P.out (by omega) ?_; rw [sh_row])
        | ((with_reducible refine wAtI 27 rfl ?_); refine ldmI 111 (.tmp 9) rfl (by first | exact want_n rfl | exact want_g _ _ _ rfl rfl rfl) pb 0 rfl 2 2 (spAt u z) _ rw_spot size_spot Q.out (by omega) ?_; rw [sp_row])
        | ((with_reducible refine wAtI 31 rfl ?_); refine ldmI 34 (.tmp 2) rfl (by first | exact want_n rfl | exact want_g _ _ _ rfl rfl rfl) w.heap.size 0 rfl 266 266 s.at _ rw_sheet size_sheet P.out (by omega) ?_; rw [sh_row])
        | ((with_reducible refine wAtI 32 rfl ?_); refine ldmI 111 (.tmp 8) rfl (by first | exact want_n rfl | exact want_g _ _ _ rfl rfl rfl) Bx 0 rfl 2 2 (spAt x y) _ rw_spot size_spot R.out (by omega) ?_; rw [sp_row])
        | ((with_reducible refine wAtI 36 rfl ?_); refine ldmI 34 (.tmp 2) rfl (by first | exact want_n rfl | exact want_g _ _ _ rfl rfl rfl) w.heap.size 0 rfl 266 266 s.at _ rw_sheet size_sheet P.out (by omega) ?_; rw [sh_row])
        | ((with_reducible refine wAtI 37 rfl ?_); refine ldmI 111 (.tmp 9) rfl (by first | exact want_n rfl | exact want_g _ _ _ rfl rfl rfl) pb 0 rfl 2 2 (spAt u z) _ rw_spot size_spot Q.out (by omega) ?_; rw [sp_row])
        | ((with_reducible refine wAtI 41 rfl ?_); refine ld1I 150 (.tmp 7) rfl (by first | exact want_n rfl | exact want_g _ _ _ rfl rfl rfl) (q + 1 + 1 + 1) 0 rfl 1 (fun _ => .map (some (q + 1 + 1))) _ rw_mtP MV.out (by omega) ?_)
        | ((with_reducible refine wAtI 42 rfl ?_); refine ldmI 111 (.tmp 9) rfl (by first | exact want_n rfl | exact want_g _ _ _ rfl rfl rfl) pb 0 rfl 2 2 (spAt u z) _ rw_spot size_spot Q.out (by omega) ?_; rw [sp_row])
        | ((with_reducible refine wAtI 43 rfl ?_); refine ldmI 111 (.tmp 8) rfl (by first | exact want_n rfl | exact want_g _ _ _ rfl rfl rfl) Bx 0 rfl 2 2 (spAt x y) _ rw_spot size_spot R.out (by omega) ?_; rw [sp_row])
        | ((with_reducible refine wAtI 44 rfl ?_); refine builtI (by first | exact want_n rfl | exact want_g _ _ _ rfl rfl rfl) 130 [(0, .tmp 42), (1, .tmp 43)] rfl [(0, .agg #[.int .i8 u, .int .i8 z]), (1, .agg #[.int .i8 x, .int .i8 y])] (by rfl) _ (built_prt u z x y) ?_)
        | ((with_reducible refine wAtI 45 rfl ?_); refine lookI (.tmp 41) (.tmp 44) 150 rfl (by first | exact want_n rfl | exact want_g _ _ _ rfl rfl rfl) 130 4 keyed_pr Tryd.underlying150 Tryd.underlying4 (zero_boolP _) (q + 1 + 1) _ D rfl OM.out _ k1 rfl HK1.out ?_; intro cb hcb; rw [HAT.out] at hcb; cases hcb)
        | (refine ⟨trivial, ?_⟩; gi_at_call 77; (refine (callsFW (ro := some _) (HH.out _)).mono ?_; rintro e w3 ⟨rfl, hb⟩; replace hCk := Go.Lib.hid (hCk.out.step (grown_next (grown_refl _ none) hb) (fun j e => by cases e)); replace O := Go.Lib.hid (O.out.kept (grown_next (grown_refl _ none) hb) (by cases hv : Value.ownBlock _ <;> simp)); replace OM := Go.Lib.hid (OM.out.kept (grown_next (grown_refl _ none) hb) (by simp)); replace R := Go.Lib.hid (row_next hb R.out); replace P := Go.Lib.hid (row_next hb P.out); replace C := Go.Lib.hid (row_next hb C.out); replace FN := Go.Lib.hid (row_next hb FN.out); replace LB := Go.Lib.hid (row_next hb LB.out); replace MV := Go.Lib.hid (row_next hb MV.out); replace Q := Go.Lib.hid (row_next hb Q.out); replace hB := Go.Lib.hid (below_next hB.out hb); have hrl3 := Nat.le_trans hrl3 hb.size; clear hb))
        | (refine ⟨trivial, ?_⟩; gi_at_call 114; (refine (callsFW (ro := some _) (HX.out _)).mono ?_; rintro e w3 ⟨rfl, hb⟩; replace hCk := Go.Lib.hid (hCk.out.step (grown_next (grown_refl _ none) hb) (fun j e => by cases e)); replace O := Go.Lib.hid (O.out.kept (grown_next (grown_refl _ none) hb) (by cases hv : Value.ownBlock _ <;> simp)); replace OM := Go.Lib.hid (OM.out.kept (grown_next (grown_refl _ none) hb) (by simp)); replace R := Go.Lib.hid (row_next hb R.out); replace P := Go.Lib.hid (row_next hb P.out); replace C := Go.Lib.hid (row_next hb C.out); replace FN := Go.Lib.hid (row_next hb FN.out); replace LB := Go.Lib.hid (row_next hb LB.out); replace MV := Go.Lib.hid (row_next hb MV.out); replace Q := Go.Lib.hid (row_next hb Q.out); replace hB := Go.Lib.hid (below_next hB.out hb); have hrl3 := Nat.le_trans hrl3 hb.size; clear hb))
        | ((with_reducible refine wAtI 31 rfl ?_); refine skipI 31 rfl rfl rfl ?_)
        | ((with_reducible refine wAtI 32 rfl ?_); refine skipI 32 rfl rfl rfl ?_)
        | ((with_reducible refine wAtI 33 rfl ?_); refine skipI 33 rfl rfl rfl ?_)
        | ((with_reducible refine wAtI 36 rfl ?_); refine skipI 36 rfl rfl rfl ?_)
        | ((with_reducible refine wAtI 37 rfl ?_); refine skipI 37 rfl rfl rfl ?_)
        | ((with_reducible refine wAtI 38 rfl ?_); refine skipI 38 rfl rfl rfl ?_)
        | ((with_reducible refine wAtI 41 rfl ?_); refine skipI 41 rfl rfl rfl ?_)
        | ((with_reducible refine wAtI 42 rfl ?_); refine skipI 42 rfl rfl rfl ?_)
        | ((with_reducible refine wAtI 43 rfl ?_); refine skipI 43 rfl rfl rfl ?_)
        | ((with_reducible refine wAtI 44 rfl ?_); refine skipI 44 rfl rfl rfl ?_)
        | ((with_reducible refine wAtI 45 rfl ?_); refine skipI 45 rfl rfl rfl ?_))
      exact ⟨hCk.out.keep, hCk.out.kp, v, D, LB.out, by rw [HAP.out, HN.out]; exact O.out, by rw [HAP.out, HN.out]; exact OM.out, by rw [HAP.out, HN.out]; exact HLK.out, MV.out, FN.out, C.out, P.out, hB.out⟩
    · obtain ⟨i, j, ei, ej, hi8, hj8⟩ := HPR.out hin
      have HZ := Go.Lib.hid fun w => waxed_any s i j hi8 hj8 w
      rw [← ei, ← ej] at HZ
      have HGO2 := HGO.out
      rw [hin, ei, ej, Int.toNat_natCast, Int.toNat_natCast, Bool.true_and] at HGO2
      have hk1 := key_pr (x := u) (y := z) (u := x) (v := y) (by omega) (by omega) (by omega) (by omega)
      have hk2 := key_pr (x := x) (y := y) (u := u) (v := z) (by omega) (by omega) (by omega) (by omega)
      obtain ⟨k1, hk1⟩ := hk1
      obtain ⟨k2, hk2⟩ := hk2
      have hme := HME.out hin
      rw [hin] at HH
      have HK1 := Go.Lib.hid hk1; have HK2 := Go.Lib.hid hk2
      clear hin hk1 hk2 HME HPR HGO ei ej
      cases hw1 : waxB s x y
      · rw [hw1] at HX
        cases hw2 : waxB s i j
        · rw [hw2] at HZ
          have hat := HLK.out.2 u z x y k1 HK1.out
          rw [hme] at hat
          have HAT := Go.Lib.hid hat
          have HG := Go.Lib.hid (show goodP s a c ax d ⟨(x, y), hx8, hy8⟩ = true by rw [HGO2, hw1, hw2]; rfl)
          clear hw1 hw2 HGO2 hme hat
          cases hct : L.contains (sgP ax d ⟨(x, y), hx8, hy8⟩)
          · have HN := Go.Lib.hid (show stp (goodP s a c ax d) (sgP ax d) L ⟨(x, y), hx8, hy8⟩ = L ++ [⟨(x, y), hx8, hy8⟩] by unfold stp; rw [HG.out, hct]; rfl)
            rw [hct] at HAT
            clear hct
            have F0 : Hid True := Go.Lib.hid trivial
            gi_wp2_with (first
              | ((with_reducible refine wAtI 26 rfl ?_); refine ldmI 34 (.tmp 2) rfl (by first | exact want_n rfl | exact want_g _ _ _ rfl rfl rfl) w.heap.size 0 rfl 266 266 s.at _ rw_sheet size_sheet P.out (by omega) ?_; rw [sh_row])
              | ((with_reducible refine wAtI 27 rfl ?_); refine ldmI 111 (.tmp 9) rfl (by first | exact want_n rfl | exact want_g _ _ _ rfl rfl rfl) pb 0 rfl 2 2 (spAt u z) _ rw_spot size_spot Q.out (by omega) ?_; rw [sp_row])
              | ((with_reducible refine wAtI 31 rfl ?_); refine ldmI 34 (.tmp 2) rfl (by first | exact want_n rfl | exact want_g _ _ _ rfl rfl rfl) w.heap.size 0 rfl 266 266 s.at _ rw_sheet size_sheet P.out (by omega) ?_; rw [sh_row])
              | ((with_reducible refine wAtI 32 rfl ?_); refine ldmI 111 (.tmp 8) rfl (by first | exact want_n rfl | exact want_g _ _ _ rfl rfl rfl) Bx 0 rfl 2 2 (spAt x y) _ rw_spot size_spot R.out (by omega) ?_; rw [sp_row])
              | ((with_reducible refine wAtI 36 rfl ?_); refine ldmI 34 (.tmp 2) rfl (by first | exact want_n rfl | exact want_g _ _ _ rfl rfl rfl) w.heap.size 0 rfl 266 266 s.at _ rw_sheet size_sheet P.out (by omega) ?_; rw [sh_row])
              | ((with_reducible refine wAtI 37 rfl ?_); refine ldmI 111 (.tmp 9) rfl (by first | exact want_n rfl | exact want_g _ _ _ rfl rfl rfl) pb 0 rfl 2 2 (spAt u z) _ rw_spot size_spot Q.out (by omega) ?_; rw [sp_row])
              | ((with_reducible refine wAtI 41 rfl ?_); refine ld1I 150 (.tmp 7) rfl (by first | exact want_n rfl | exact want_g _ _ _ rfl rfl rfl) (q + 1 + 1 + 1) 0 rfl 1 (fun _ => .map (some (q + 1 + 1))) _ rw_mtP MV.out (by omega) ?_)
              | ((with_reducible refine wAtI 42 rfl ?_); refine ldmI 111 (.tmp 9) rfl (by first | exact want_n rfl | exact want_g _ _ _ rfl rfl rfl) pb 0 rfl 2 2 (spAt u z) _ rw_spot size_spot Q.out (by omega) ?_; rw [sp_row])
              | ((with_reducible refine wAtI 43 rfl ?_); refine ldmI 111 (.tmp 8) rfl (by first | exact want_n rfl | exact want_g _ _ _ rfl rfl rfl) Bx 0 rfl 2 2 (spAt x y) _ rw_spot size_spot R.out (by omega) ?_; rw [sp_row])
              | ((with_reducible refine wAtI 44 rfl ?_); refine builtI (by first | exact want_n rfl | exact want_g _ _ _ rfl rfl rfl) 130 [(0, .tmp 42), (1, .tmp 43)] rfl [(0, .agg #[.int .i8 u, .int .i8 z]), (1, .agg #[.int .i8 x, .int .i8 y])] (by rfl) _ (built_prt u z x y) ?_)
              | ((with_reducible refine wAtI 45 rfl ?_); refine lookI (.tmp 41) (.tmp 44) 150 rfl (by first | exact want_n rfl | exact want_g _ _ _ rfl rfl rfl) 130 4 keyed_pr Tryd.underlying150 Tryd.underlying4 (zero_boolP _) (q + 1 + 1) _ D rfl OM.out _ k1 rfl HK1.out ?_; intro cb hcb; rw [HAT.out] at hcb; cases hcb)
              | (refine ⟨trivial, ?_⟩; gi_at_call 77; (refine (callsFW (ro := some _) (HH.out _)).mono ?_; rintro e w3 ⟨rfl, hb⟩; replace hCk := Go.Lib.hid (hCk.out.step (grown_next (grown_refl _ none) hb) (fun j e => by cases e)); replace O := Go.Lib.hid (O.out.kept (grown_next (grown_refl _ none) hb) (by cases hv : Value.ownBlock _ <;> simp)); replace OM := Go.Lib.hid (OM.out.kept (grown_next (grown_refl _ none) hb) (by simp)); replace R := Go.Lib.hid (row_next hb R.out); replace P := Go.Lib.hid (row_next hb P.out); replace C := Go.Lib.hid (row_next hb C.out); replace FN := Go.Lib.hid (row_next hb FN.out); replace LB := Go.Lib.hid (row_next hb LB.out); replace MV := Go.Lib.hid (row_next hb MV.out); replace Q := Go.Lib.hid (row_next hb Q.out); replace hB := Go.Lib.hid (below_next hB.out hb); have hrl3 := Nat.le_trans hrl3 hb.size; clear hb))
              | (first | (replace F0 := F0.out; clear F0; (refine ⟨trivial, ?_⟩; gi_at_call 114; (refine (callsFW (ro := some _) (HX.out _)).mono ?_; rintro e w3 ⟨rfl, hb⟩; replace hCk := Go.Lib.hid (hCk.out.step (grown_next (grown_refl _ none) hb) (fun j e => by cases e)); replace O := Go.Lib.hid (O.out.kept (grown_next (grown_refl _ none) hb) (by cases hv : Value.ownBlock _ <;> simp)); replace OM := Go.Lib.hid (OM.out.kept (grown_next (grown_refl _ none) hb) (by simp)); replace R := Go.Lib.hid (row_next hb R.out); replace P := Go.Lib.hid (row_next hb P.out); replace C := Go.Lib.hid (row_next hb C.out); replace FN := Go.Lib.hid (row_next hb FN.out); replace LB := Go.Lib.hid (row_next hb LB.out); replace MV := Go.Lib.hid (row_next hb MV.out); replace Q := Go.Lib.hid (row_next hb Q.out); replace hB := Go.Lib.hid (below_next hB.out hb); have hrl3 := Nat.le_trans hrl3 hb.size; clear hb))) | (refine ⟨trivial, ?_⟩; gi_at_call 114; (refine (callsFW (ro := some _) (HZ.out _)).mono ?_; rintro e w3 ⟨rfl, hb⟩; replace hCk := Go.Lib.hid (hCk.out.step (grown_next (grown_refl _ none) hb) (fun j e => by cases e)); replace O := Go.Lib.hid (O.out.kept (grown_next (grown_refl _ none) hb) (by cases hv : Value.ownBlock _ <;> simp)); replace OM := Go.Lib.hid (OM.out.kept (grown_next (grown_refl _ none) hb) (by simp)); replace R := Go.Lib.hid (row_next hb R.out); replace P := Go.Lib.hid (row_next hb P.out); replace C := Go.Lib.hid (row_next hb C.out); replace FN := Go.Lib.hid (row_next hb FN.out); replace LB := Go.Lib.hid (row_next hb LB.out); replace MV := Go.Lib.hid (row_next hb MV.out); replace Q := Go.Lib.hid (row_next hb Q.out); replace hB := Go.Lib.hid (below_next hB.out hb); have hrl3 := Nat.le_trans hrl3 hb.size; clear hb)))
              | ((with_reducible refine wAtI 31 rfl ?_); refine skipI 31 rfl rfl rfl ?_)
              | ((with_reducible refine wAtI 32 rfl ?_); refine skipI 32 rfl rfl rfl ?_)
              | ((with_reducible refine wAtI 33 rfl ?_); refine skipI 33 rfl rfl rfl ?_)
              | ((with_reducible refine wAtI 36 rfl ?_); refine skipI 36 rfl rfl rfl ?_)
              | ((with_reducible refine wAtI 37 rfl ?_); refine skipI 37 rfl rfl rfl ?_)
              | ((with_reducible refine wAtI 38 rfl ?_); refine skipI 38 rfl rfl rfl ?_)
              | ((with_reducible refine wAtI 41 rfl ?_); refine skipI 41 rfl rfl rfl ?_)
              | ((with_reducible refine wAtI 42 rfl ?_); refine skipI 42 rfl rfl rfl ?_)
              | ((with_reducible refine wAtI 43 rfl ?_); refine skipI 43 rfl rfl rfl ?_)
              | ((with_reducible refine wAtI 44 rfl ?_); refine skipI 44 rfl rfl rfl ?_)
              | ((with_reducible refine wAtI 45 rfl ?_); refine skipI 45 rfl rfl rfl ?_)
              | ((with_reducible refine wlAtB 47 rfl ?_); refine Shut.out ?_))
            refine (id ?_ : Shut _)
            unfold Shut
            gi_wp2_with (first
              | ((with_reducible refine wlAtB 47 rfl ?_); refine loadmidB rfl 111 (.tmp 8) rfl Bx 0 rfl 2 2 (spAt x y) 111 _ Tryd.underlying111 rfl size_spot R.out (by omega) ?_; rw [sp_row])
              | ((with_reducible refine wlAtB 48 rfl ?_); refine loadmidB rfl 111 (.tmp 9) rfl pb 0 rfl 2 2 (spAt u z) 111 _ Tryd.underlying111 rfl size_spot Q.out (by omega) ?_; rw [sp_row])
              | ((with_reducible refine wAtI 49 rfl ?_); refine builtI (by first | exact want_n rfl | exact want_g _ _ _ rfl rfl rfl) 130 [(0, .tmp 47), (1, .tmp 48)] rfl [(0, .agg #[.int .i8 x, .int .i8 y]), (1, .agg #[.int .i8 u, .int .i8 z])] (by rfl) _ (built_prt x y u z) ?_)
              | ((with_reducible refine wlOpB (.store 130 (.tmp 10) (.tmp 49)) rfl ?_); refine wpListIn_storeall rfl 130 (.tmp 10) (.tmp 49) rfl _ rfl 4 (p4 0 0 0 0) (p4 x y u z) rfl 130 size_prtP (heap_at _ _ _ rfl) (fun i _ => p4_one _ _ _ _ i) ?_; rw [setRow_at _ _ _ _ _ rfl])
              | ((with_reducible refine wlAtB 50 rfl ?_); refine Shut.out ?_))
            refine (id ?_ : Shut _)
            unfold Shut
            have hT0 : (w3.alloc (.cells (vrow 4 (p4 x y u z)) 130)).heap[w3.heap.size]? = some (.cells (vrow 4 (p4 x y u z)) 130) := heap_at _ _ _ rfl
            replace hCk := Go.Lib.hid (hCk.out.step (World.grownBy_alloc w3 (.cells (vrow 4 (p4 x y u z)) 130) none) (fun j e => by cases e))
            replace O := Go.Lib.hid (O.out.alloc (.cells (vrow 4 (p4 x y u z)) 130)); replace OM := Go.Lib.hid (OM.out.alloc (.cells (vrow 4 (p4 x y u z)) 130))
            have hq2 : q + 6 ≤ w3.heap.size := by have := row_lt Q.out; omega
            replace R := Go.Lib.hid (heap_past w3 (.cells (vrow 4 (p4 x y u z)) 130) _ _ (row_lt R.out) R.out); replace P := Go.Lib.hid (heap_past w3 (.cells (vrow 4 (p4 x y u z)) 130) _ _ (row_lt P.out) P.out); replace C := Go.Lib.hid (heap_past w3 (.cells (vrow 4 (p4 x y u z)) 130) _ _ (row_lt C.out) C.out); replace FN := Go.Lib.hid (heap_past w3 (.cells (vrow 4 (p4 x y u z)) 130) _ _ (row_lt FN.out) FN.out); replace LB := Go.Lib.hid (heap_past w3 (.cells (vrow 4 (p4 x y u z)) 130) _ _ (row_lt LB.out) LB.out); replace MV := Go.Lib.hid (heap_past w3 (.cells (vrow 4 (p4 x y u z)) 130) _ _ (row_lt MV.out) MV.out); replace Q := Go.Lib.hid (heap_past w3 (.cells (vrow 4 (p4 x y u z)) 130) _ _ (row_lt Q.out) Q.out)
            replace hB := Go.Lib.hid (hB.out.alloc hB.out.size (.cells (vrow 4 (p4 x y u z)) 130))
            have hrl4 : Wc.heap.size ≤ (w3.alloc (.cells (vrow 4 (p4 x y u z)) 130)).heap.size := by simp; omega
            obtain ⟨We, hWe⟩ : ∃ We, (w3.alloc (.cells (vrow 4 (p4 x y u z)) 130)) = We := ⟨_, rfl⟩
            obtain ⟨eb, heb⟩ : ∃ eb, w3.heap.size = eb := ⟨_, rfl⟩
            rw [hWe] at hCk O OM R P C FN LB MV Q hB hrl4 hT0 ⊢
            rw [heb] at hT0 hq2 ⊢
            have T := Go.Lib.hid hT0
            clear hWe heb hT0
            gi_wp2_with (first
              | ((with_reducible refine wlAtB 50 rfl ?_); refine loadoneB rfl 150 (.tmp 7) rfl (q + 1 + 1 + 1) 0 rfl 1 (fun _ => .map (some (q + 1 + 1))) 150 _ Tryd.underlying150 rfl MV.out (by omega) ?_)
              | ((with_reducible refine wlAtB 51 rfl ?_); refine loadmidB rfl 130 (.tmp 10) rfl eb 0 rfl 4 4 (p4 x y u z) 130 _ Tryd.underlying130 rfl size_prtP T.out (by omega) ?_; simp only [Nat.zero_add]; rw [← p4_row])
              | (gi_at_mapUpdate; refine Shut.out ?_))
            refine (id ?_ : Shut _)
            unfold Shut
            refine wpListIn_mapUpdate_own _ rfl (.tmp 50) (.tmp 51) _ 150 rfl 130 4 keyed_pr Tryd.underlying150 (plainElem Tryd.prog 4) (q + 1 + 1) _ D rfl OM.out (by simp only [maxLen]; omega) _ _ k2 rfl rfl HK2.out (.lit (.bool true)) [] (plainElem_bool Tryd.underlying4 true) ?_
            intro w4 hOM4 hg4
            have hov := O.out.lt
            replace R := Go.Lib.hid ((hg4.block _ (row_lt R.out) (fun e => by have := Option.some.inj e; omega)).trans R.out)
            replace P := Go.Lib.hid ((hg4.block _ (row_lt P.out) (fun e => by have := Option.some.inj e; omega)).trans P.out)
            replace C := Go.Lib.hid ((hg4.block _ (row_lt C.out) (fun e => by have := Option.some.inj e; omega)).trans C.out)
            replace FN := Go.Lib.hid ((hg4.block _ (row_lt FN.out) (fun e => by have := Option.some.inj e; omega)).trans FN.out)
            replace LB := Go.Lib.hid ((hg4.block _ (row_lt LB.out) (fun e => by have := Option.some.inj e; omega)).trans LB.out)
            replace MV := Go.Lib.hid ((hg4.block _ (row_lt MV.out) (fun e => by have := Option.some.inj e; omega)).trans MV.out)
            replace Q := Go.Lib.hid ((hg4.block _ (row_lt Q.out) (fun e => by have := Option.some.inj e; omega)).trans Q.out)
            replace T := Go.Lib.hid ((hg4.block _ (row_lt T.out) (fun e => by have := Option.some.inj e; omega)).trans T.out)
            replace hCk := Go.Lib.hid (hCk.out.step hg4 (fun j e => by have := Option.some.inj e; exact ⟨by omega, by omega, by omega⟩))
            replace O := Go.Lib.hid (O.out.kept hg4 (.inr (fun e => by have := (hov _ e).1; omega)))
            replace OM := Go.Lib.hid hOM4
            replace hB := Go.Lib.hid (hB.out.grown hg4 hB.out.size (fun q0 hq0 => by have := Option.some.inj hq0; omega))
            have hrl5 := Nat.le_trans hrl4 hg4.size
            clear hov hg4 hOM4
            have hLB9 : w.heap.size < q + 1 := by omega
            gi_wp2_with (first
              | ((with_reducible refine wlAtB 52 rfl ?_); refine loadoneB rfl 102 (.tmp 6) rfl (q + 1) 0 rfl 1 (fun _ => v) 102 _ Tryd.underlying102 rfl LB.out (by omega) ?_)
              | ((with_reducible refine wlAtB 53 rfl ?_); refine loadmidB rfl 130 (.tmp 10) rfl eb 0 rfl 4 4 (p4 x y u z) 130 _ Tryd.underlying130 rfl size_prtP T.out (by omega) ?_; simp only [Nat.zero_add]; rw [← p4_row])
              | ((with_reducible refine wlAtB 55 rfl ?_); refine Shut.out ?_))
            refine (id ?_ : Shut _)
            unfold Shut
            have hrR := row_lt R.out
            refine wpListIn_append_own _ rfl (.tmp 52) (.tmp 54) 102 rfl W0.heap.size 130 i0 (.agg #[.int .i8 0, .int .i8 0, .int .i8 0, .int .i8 0]) 4 4 Tryd.underlying102 hi hz0 hz1 hz2 rfl (by decide) v _ _ rfl (O.out.alloc _) ⟨w4.heap.size, 0, none⟩ 1 1 [.int .i8 x, .int .i8 y, .int .i8 u, .int .i8 z] rfl rfl (World.news_of_block (heap_at _ _ _ rfl)) (by simp [Value.oneCell']) (by simp only [maxLen]; omega) (by omega) (by simp; omega) ?_
            intro v' w5 hO5 hg5 _
            have hov := O.out.lt
            replace P := Go.Lib.hid ((hg5.block _ (by have := row_lt P.out; simp; omega) (fun e => by have := (hov _ e.symm).1; omega)).trans (heap_past _ _ _ _ (row_lt P.out) P.out))
            replace C := Go.Lib.hid ((hg5.block _ (by have := row_lt C.out; simp; omega) (fun e => by have := (hov _ e.symm).1; omega)).trans (heap_past _ _ _ _ (row_lt C.out) C.out))
            replace FN := Go.Lib.hid ((hg5.block _ (by have := row_lt FN.out; simp; omega) (fun e => by have := (hov _ e.symm).1; omega)).trans (heap_past _ _ _ _ (row_lt FN.out) FN.out))
            replace LB := Go.Lib.hid ((hg5.block _ (by have := row_lt LB.out; simp; omega) (fun e => by have := (hov _ e.symm).1; omega)).trans (heap_past _ _ _ _ (row_lt LB.out) LB.out))
            replace MV := Go.Lib.hid ((hg5.block _ (by have := row_lt MV.out; simp; omega) (fun e => by have := (hov _ e.symm).1; omega)).trans (heap_past _ _ _ _ (row_lt MV.out) MV.out))
            replace hB := Go.Lib.hid ((hB.out.alloc hB.out.size _).grown hg5 (by simp; have := hB.out.size; omega) (fun q0 hq0 => by have := (hov q0 hq0).1; omega))
            have hkk := keeps_own (B := W0.heap.size) (O.out.alloc _) hg5
            have hck1 := hCk.out.step (World.grownBy_alloc w4 (.cells #[.int .i8 x, .int .i8 y, .int .i8 u, .int .i8 z] 130) none) (fun j e => by cases e)
            have s1 := hck1.s1
            have s2 := hck1.s2
            have hp1 := hg5.block _ s1 (fun e => by have := (hov _ e.symm).1; omega)
            have hp2 := hg5.block _ s2 (fun e => by have := (hov _ e.symm).1; omega)
            have hkp : Kp2 (q + 1 + 1 + 1 + 1 + 1) (q + 1 + 1 + 1 + 1) (w4.alloc (.cells #[.int .i8 x, .int .i8 y, .int .i8 u, .int .i8 z] 130)) w5 := And.intro hp1 hp2
            have hck2 := CkB.stepK hck1 hkk hkp
            replace hCk := Go.Lib.hid hck2
            replace OM := Go.Lib.hid ((OM.out.alloc (.cells #[.int .i8 x, .int .i8 y, .int .i8 u, .int .i8 z] 130)).kept hg5 (fun e => by have := (hov _ e.symm).1; omega))
            have O5 := Go.Lib.hid hO5
            clear hg5 hkk hov hck1 s1 s2 hp1 hp2 hkp hck2 O hO5
            gi_wp2_with (first
              | ((with_reducible refine wlOpB (.store 102 (.tmp 6) (.tmp 55)) rfl ?_); refine wpListIn_store1 rfl 102 (.tmp 6) (.tmp 55) rfl (q + 1) 0 rfl 1 (fun _ => v) v' rfl 102 size_pltP LB.out (by omega) (own_one O5.out) ?_; rw [vrow_over_all]; have hgr := grown_set (grown_refl w5 (some (q + 1))) (vrow 1 fun _ => v'); have hov3 := O5.out.lt; replace P := Go.Lib.hid (row_set' (g := q + 1) (by omega) P.out (vrow 1 fun _ => v')); replace C := Go.Lib.hid (row_set' (g := q + 1) (by omega) C.out (vrow 1 fun _ => v')); replace FN := Go.Lib.hid (row_set' (g := q + 1) (by omega) FN.out (vrow 1 fun _ => v')); replace MV := Go.Lib.hid (row_set' (g := q + 1) (by omega) MV.out (vrow 1 fun _ => v')); replace LB := Go.Lib.hid (row_set LB.out (vrow 1 fun _ => v')); replace O5 := Go.Lib.hid (O5.out.kept hgr (.inr (fun e => by have := (hov3 _ e).1; omega))); replace OM := Go.Lib.hid (OM.out.kept hgr (fun e => by have := Option.some.inj e; omega)); replace hCk := Go.Lib.hid (hCk.out.step hgr (fun j e => by have := Option.some.inj e; exact ⟨by omega, by omega, by omega⟩)); replace hB := Go.Lib.hid (Below_setRow hB.out (show w.heap.size ≤ q + 1 by omega) (vrow 1 fun _ => v')); clear hgr hov3))
            have hvl := vals4_one ax d (⟨(x, y), hx8, hy8⟩ : Sp8)
            simp only at hvl
            rw [hu.out, hz.out] at hvl
            exact ⟨hCk.out.keep, hCk.out.kp, v', _, LB.out, by rw [HAP.out, HN.out, List.length_append, vals4_app, hvl]; exact O5.out, by rw [HAP.out, HN.out, List.length_append]; exact OM.out, by rw [HAP.out, HN.out]; exact HLA.out _ HK2.out, MV.out, FN.out, C.out, P.out, hB.out⟩
          · have HN := Go.Lib.hid (show stp (goodP s a c ax d) (sgP ax d) L ⟨(x, y), hx8, hy8⟩ = L by unfold stp; rw [HG.out, hct]; rfl)
            rw [hct] at HAT
            clear hct
            have F0 : Hid True := Go.Lib.hid trivial
            gi_wp2_with (first
              | ((with_reducible refine wAtI 26 rfl ?_); refine ldmI 34 (.tmp 2) rfl (by first | exact want_n rfl | exact want_g _ _ _ rfl rfl rfl) w.heap.size 0 rfl 266 266 s.at _ rw_sheet size_sheet P.out (by omega) ?_; rw [sh_row])
              | ((with_reducible refine wAtI 27 rfl ?_); refine ldmI 111 (.tmp 9) rfl (by first | exact want_n rfl | exact want_g _ _ _ rfl rfl rfl) pb 0 rfl 2 2 (spAt u z) _ rw_spot size_spot Q.out (by omega) ?_; rw [sp_row])
              | ((with_reducible refine wAtI 31 rfl ?_); refine ldmI 34 (.tmp 2) rfl (by first | exact want_n rfl | exact want_g _ _ _ rfl rfl rfl) w.heap.size 0 rfl 266 266 s.at _ rw_sheet size_sheet P.out (by omega) ?_; rw [sh_row])
              | ((with_reducible refine wAtI 32 rfl ?_); refine ldmI 111 (.tmp 8) rfl (by first | exact want_n rfl | exact want_g _ _ _ rfl rfl rfl) Bx 0 rfl 2 2 (spAt x y) _ rw_spot size_spot R.out (by omega) ?_; rw [sp_row])
              | ((with_reducible refine wAtI 36 rfl ?_); refine ldmI 34 (.tmp 2) rfl (by first | exact want_n rfl | exact want_g _ _ _ rfl rfl rfl) w.heap.size 0 rfl 266 266 s.at _ rw_sheet size_sheet P.out (by omega) ?_; rw [sh_row])
              | ((with_reducible refine wAtI 37 rfl ?_); refine ldmI 111 (.tmp 9) rfl (by first | exact want_n rfl | exact want_g _ _ _ rfl rfl rfl) pb 0 rfl 2 2 (spAt u z) _ rw_spot size_spot Q.out (by omega) ?_; rw [sp_row])
              | ((with_reducible refine wAtI 41 rfl ?_); refine ld1I 150 (.tmp 7) rfl (by first | exact want_n rfl | exact want_g _ _ _ rfl rfl rfl) (q + 1 + 1 + 1) 0 rfl 1 (fun _ => .map (some (q + 1 + 1))) _ rw_mtP MV.out (by omega) ?_)
              | ((with_reducible refine wAtI 42 rfl ?_); refine ldmI 111 (.tmp 9) rfl (by first | exact want_n rfl | exact want_g _ _ _ rfl rfl rfl) pb 0 rfl 2 2 (spAt u z) _ rw_spot size_spot Q.out (by omega) ?_; rw [sp_row])
              | ((with_reducible refine wAtI 43 rfl ?_); refine ldmI 111 (.tmp 8) rfl (by first | exact want_n rfl | exact want_g _ _ _ rfl rfl rfl) Bx 0 rfl 2 2 (spAt x y) _ rw_spot size_spot R.out (by omega) ?_; rw [sp_row])
              | ((with_reducible refine wAtI 44 rfl ?_); refine builtI (by first | exact want_n rfl | exact want_g _ _ _ rfl rfl rfl) 130 [(0, .tmp 42), (1, .tmp 43)] rfl [(0, .agg #[.int .i8 u, .int .i8 z]), (1, .agg #[.int .i8 x, .int .i8 y])] (by rfl) _ (built_prt u z x y) ?_)
              | ((with_reducible refine wAtI 45 rfl ?_); refine lookI (.tmp 41) (.tmp 44) 150 rfl (by first | exact want_n rfl | exact want_g _ _ _ rfl rfl rfl) 130 4 keyed_pr Tryd.underlying150 Tryd.underlying4 (zero_boolP _) (q + 1 + 1) _ D rfl OM.out _ k1 rfl HK1.out ?_; intro cb hcb; rw [HAT.out] at hcb; cases hcb)
              | (refine ⟨trivial, ?_⟩; gi_at_call 77; (refine (callsFW (ro := some _) (HH.out _)).mono ?_; rintro e w3 ⟨rfl, hb⟩; replace hCk := Go.Lib.hid (hCk.out.step (grown_next (grown_refl _ none) hb) (fun j e => by cases e)); replace O := Go.Lib.hid (O.out.kept (grown_next (grown_refl _ none) hb) (by cases hv : Value.ownBlock _ <;> simp)); replace OM := Go.Lib.hid (OM.out.kept (grown_next (grown_refl _ none) hb) (by simp)); replace R := Go.Lib.hid (row_next hb R.out); replace P := Go.Lib.hid (row_next hb P.out); replace C := Go.Lib.hid (row_next hb C.out); replace FN := Go.Lib.hid (row_next hb FN.out); replace LB := Go.Lib.hid (row_next hb LB.out); replace MV := Go.Lib.hid (row_next hb MV.out); replace Q := Go.Lib.hid (row_next hb Q.out); replace hB := Go.Lib.hid (below_next hB.out hb); have hrl3 := Nat.le_trans hrl3 hb.size; clear hb))
              | (first | (replace F0 := F0.out; clear F0; (refine ⟨trivial, ?_⟩; gi_at_call 114; (refine (callsFW (ro := some _) (HX.out _)).mono ?_; rintro e w3 ⟨rfl, hb⟩; replace hCk := Go.Lib.hid (hCk.out.step (grown_next (grown_refl _ none) hb) (fun j e => by cases e)); replace O := Go.Lib.hid (O.out.kept (grown_next (grown_refl _ none) hb) (by cases hv : Value.ownBlock _ <;> simp)); replace OM := Go.Lib.hid (OM.out.kept (grown_next (grown_refl _ none) hb) (by simp)); replace R := Go.Lib.hid (row_next hb R.out); replace P := Go.Lib.hid (row_next hb P.out); replace C := Go.Lib.hid (row_next hb C.out); replace FN := Go.Lib.hid (row_next hb FN.out); replace LB := Go.Lib.hid (row_next hb LB.out); replace MV := Go.Lib.hid (row_next hb MV.out); replace Q := Go.Lib.hid (row_next hb Q.out); replace hB := Go.Lib.hid (below_next hB.out hb); have hrl3 := Nat.le_trans hrl3 hb.size; clear hb))) | (refine ⟨trivial, ?_⟩; gi_at_call 114; (refine (callsFW (ro := some _) (HZ.out _)).mono ?_; rintro e w3 ⟨rfl, hb⟩; replace hCk := Go.Lib.hid (hCk.out.step (grown_next (grown_refl _ none) hb) (fun j e => by cases e)); replace O := Go.Lib.hid (O.out.kept (grown_next (grown_refl _ none) hb) (by cases hv : Value.ownBlock _ <;> simp)); replace OM := Go.Lib.hid (OM.out.kept (grown_next (grown_refl _ none) hb) (by simp)); replace R := Go.Lib.hid (row_next hb R.out); replace P := Go.Lib.hid (row_next hb P.out); replace C := Go.Lib.hid (row_next hb C.out); replace FN := Go.Lib.hid (row_next hb FN.out); replace LB := Go.Lib.hid (row_next hb LB.out); replace MV := Go.Lib.hid (row_next hb MV.out); replace Q := Go.Lib.hid (row_next hb Q.out); replace hB := Go.Lib.hid (below_next hB.out hb); have hrl3 := Nat.le_trans hrl3 hb.size; clear hb)))
              | ((with_reducible refine wAtI 31 rfl ?_); refine skipI 31 rfl rfl rfl ?_)
              | ((with_reducible refine wAtI 32 rfl ?_); refine skipI 32 rfl rfl rfl ?_)
              | ((with_reducible refine wAtI 33 rfl ?_); refine skipI 33 rfl rfl rfl ?_)
              | ((with_reducible refine wAtI 36 rfl ?_); refine skipI 36 rfl rfl rfl ?_)
              | ((with_reducible refine wAtI 37 rfl ?_); refine skipI 37 rfl rfl rfl ?_)
              | ((with_reducible refine wAtI 38 rfl ?_); refine skipI 38 rfl rfl rfl ?_)
              | ((with_reducible refine wAtI 41 rfl ?_); refine skipI 41 rfl rfl rfl ?_)
              | ((with_reducible refine wAtI 42 rfl ?_); refine skipI 42 rfl rfl rfl ?_)
              | ((with_reducible refine wAtI 43 rfl ?_); refine skipI 43 rfl rfl rfl ?_)
              | ((with_reducible refine wAtI 44 rfl ?_); refine skipI 44 rfl rfl rfl ?_)
              | ((with_reducible refine wAtI 45 rfl ?_); refine skipI 45 rfl rfl rfl ?_))
            exact ⟨hCk.out.keep, hCk.out.kp, v, D, LB.out, by rw [HAP.out, HN.out]; exact O.out, by rw [HAP.out, HN.out]; exact OM.out, by rw [HAP.out, HN.out]; exact HLK.out, MV.out, FN.out, C.out, P.out, hB.out⟩
        · have HN := Go.Lib.hid (show stp (goodP s a c ax d) (sgP ax d) L ⟨(x, y), hx8, hy8⟩ = L by unfold stp; rw [HGO2, hw1, hw2]; rfl)
          rw [hw2] at HZ
          clear hw1 hw2 HGO2 hme
          have F0 : Hid True := Go.Lib.hid trivial
          gi_wp2_with (first
            | ((with_reducible refine wAtI 26 rfl ?_); refine ldmI 34 (.tmp 2) rfl (by first | exact want_n rfl | exact want_g _ _ _ rfl rfl rfl) w.heap.size 0 rfl 266 266 s.at _ rw_sheet size_sheet P.out (by omega) ?_; rw [sh_row])
            | ((with_reducible refine wAtI 27 rfl ?_); refine ldmI 111 (.tmp 9) rfl (by first | exact want_n rfl | exact want_g _ _ _ rfl rfl rfl) pb 0 rfl 2 2 (spAt u z) _ rw_spot size_spot Q.out (by omega) ?_; rw [sp_row])
            | ((with_reducible refine wAtI 31 rfl ?_); refine ldmI 34 (.tmp 2) rfl (by first | exact want_n rfl | exact want_g _ _ _ rfl rfl rfl) w.heap.size 0 rfl 266 266 s.at _ rw_sheet size_sheet P.out (by omega) ?_; rw [sh_row])
            | ((with_reducible refine wAtI 32 rfl ?_); refine ldmI 111 (.tmp 8) rfl (by first | exact want_n rfl | exact want_g _ _ _ rfl rfl rfl) Bx 0 rfl 2 2 (spAt x y) _ rw_spot size_spot R.out (by omega) ?_; rw [sp_row])
            | ((with_reducible refine wAtI 36 rfl ?_); refine ldmI 34 (.tmp 2) rfl (by first | exact want_n rfl | exact want_g _ _ _ rfl rfl rfl) w.heap.size 0 rfl 266 266 s.at _ rw_sheet size_sheet P.out (by omega) ?_; rw [sh_row])
            | ((with_reducible refine wAtI 37 rfl ?_); refine ldmI 111 (.tmp 9) rfl (by first | exact want_n rfl | exact want_g _ _ _ rfl rfl rfl) pb 0 rfl 2 2 (spAt u z) _ rw_spot size_spot Q.out (by omega) ?_; rw [sp_row])
            | ((with_reducible refine wAtI 41 rfl ?_); refine ld1I 150 (.tmp 7) rfl (by first | exact want_n rfl | exact want_g _ _ _ rfl rfl rfl) (q + 1 + 1 + 1) 0 rfl 1 (fun _ => .map (some (q + 1 + 1))) _ rw_mtP MV.out (by omega) ?_)
            | ((with_reducible refine wAtI 42 rfl ?_); refine ldmI 111 (.tmp 9) rfl (by first | exact want_n rfl | exact want_g _ _ _ rfl rfl rfl) pb 0 rfl 2 2 (spAt u z) _ rw_spot size_spot Q.out (by omega) ?_; rw [sp_row])
            | ((with_reducible refine wAtI 43 rfl ?_); refine ldmI 111 (.tmp 8) rfl (by first | exact want_n rfl | exact want_g _ _ _ rfl rfl rfl) Bx 0 rfl 2 2 (spAt x y) _ rw_spot size_spot R.out (by omega) ?_; rw [sp_row])
            | ((with_reducible refine wAtI 44 rfl ?_); refine builtI (by first | exact want_n rfl | exact want_g _ _ _ rfl rfl rfl) 130 [(0, .tmp 42), (1, .tmp 43)] rfl [(0, .agg #[.int .i8 u, .int .i8 z]), (1, .agg #[.int .i8 x, .int .i8 y])] (by rfl) _ (built_prt u z x y) ?_)
            | ((with_reducible refine wAtI 45 rfl ?_); refine lookI (.tmp 41) (.tmp 44) 150 rfl (by first | exact want_n rfl | exact want_g _ _ _ rfl rfl rfl) 130 4 keyed_pr Tryd.underlying150 Tryd.underlying4 (zero_boolP _) (q + 1 + 1) _ D rfl OM.out _ k1 rfl HK1.out ?_; intro cb hcb; rw [HAT.out] at hcb; cases hcb)
            | (refine ⟨trivial, ?_⟩; gi_at_call 77; (refine (callsFW (ro := some _) (HH.out _)).mono ?_; rintro e w3 ⟨rfl, hb⟩; replace hCk := Go.Lib.hid (hCk.out.step (grown_next (grown_refl _ none) hb) (fun j e => by cases e)); replace O := Go.Lib.hid (O.out.kept (grown_next (grown_refl _ none) hb) (by cases hv : Value.ownBlock _ <;> simp)); replace OM := Go.Lib.hid (OM.out.kept (grown_next (grown_refl _ none) hb) (by simp)); replace R := Go.Lib.hid (row_next hb R.out); replace P := Go.Lib.hid (row_next hb P.out); replace C := Go.Lib.hid (row_next hb C.out); replace FN := Go.Lib.hid (row_next hb FN.out); replace LB := Go.Lib.hid (row_next hb LB.out); replace MV := Go.Lib.hid (row_next hb MV.out); replace Q := Go.Lib.hid (row_next hb Q.out); replace hB := Go.Lib.hid (below_next hB.out hb); have hrl3 := Nat.le_trans hrl3 hb.size; clear hb))
            | (first | (replace F0 := F0.out; clear F0; (refine ⟨trivial, ?_⟩; gi_at_call 114; (refine (callsFW (ro := some _) (HX.out _)).mono ?_; rintro e w3 ⟨rfl, hb⟩; replace hCk := Go.Lib.hid (hCk.out.step (grown_next (grown_refl _ none) hb) (fun j e => by cases e)); replace O := Go.Lib.hid (O.out.kept (grown_next (grown_refl _ none) hb) (by cases hv : Value.ownBlock _ <;> simp)); replace OM := Go.Lib.hid (OM.out.kept (grown_next (grown_refl _ none) hb) (by simp)); replace R := Go.Lib.hid (row_next hb R.out); replace P := Go.Lib.hid (row_next hb P.out); replace C := Go.Lib.hid (row_next hb C.out); replace FN := Go.Lib.hid (row_next hb FN.out); replace LB := Go.Lib.hid (row_next hb LB.out); replace MV := Go.Lib.hid (row_next hb MV.out); replace Q := Go.Lib.hid (row_next hb Q.out); replace hB := Go.Lib.hid (below_next hB.out hb); have hrl3 := Nat.le_trans hrl3 hb.size; clear hb))) | (refine ⟨trivial, ?_⟩; gi_at_call 114; (refine (callsFW (ro := some _) (HZ.out _)).mono ?_; rintro e w3 ⟨rfl, hb⟩; replace hCk := Go.Lib.hid (hCk.out.step (grown_next (grown_refl _ none) hb) (fun j e => by cases e)); replace O := Go.Lib.hid (O.out.kept (grown_next (grown_refl _ none) hb) (by cases hv : Value.ownBlock _ <;> simp)); replace OM := Go.Lib.hid (OM.out.kept (grown_next (grown_refl _ none) hb) (by simp)); replace R := Go.Lib.hid (row_next hb R.out); replace P := Go.Lib.hid (row_next hb P.out); replace C := Go.Lib.hid (row_next hb C.out); replace FN := Go.Lib.hid (row_next hb FN.out); replace LB := Go.Lib.hid (row_next hb LB.out); replace MV := Go.Lib.hid (row_next hb MV.out); replace Q := Go.Lib.hid (row_next hb Q.out); replace hB := Go.Lib.hid (below_next hB.out hb); have hrl3 := Nat.le_trans hrl3 hb.size; clear hb)))
            | ((with_reducible refine wAtI 31 rfl ?_); refine skipI 31 rfl rfl rfl ?_)
            | ((with_reducible refine wAtI 32 rfl ?_); refine skipI 32 rfl rfl rfl ?_)
            | ((with_reducible refine wAtI 33 rfl ?_); refine skipI 33 rfl rfl rfl ?_)
            | ((with_reducible refine wAtI 36 rfl ?_); refine skipI 36 rfl rfl rfl ?_)
            | ((with_reducible refine wAtI 37 rfl ?_); refine skipI 37 rfl rfl rfl ?_)
            | ((with_reducible refine wAtI 38 rfl ?_); refine skipI 38 rfl rfl rfl ?_)
            | ((with_reducible refine wAtI 41 rfl ?_); refine skipI 41 rfl rfl rfl ?_)
            | ((with_reducible refine wAtI 42 rfl ?_); refine skipI 42 rfl rfl rfl ?_)
            | ((with_reducible refine wAtI 43 rfl ?_); refine skipI 43 rfl rfl rfl ?_)
            | ((with_reducible refine wAtI 44 rfl ?_); refine skipI 44 rfl rfl rfl ?_)
            | ((with_reducible refine wAtI 45 rfl ?_); refine skipI 45 rfl rfl rfl ?_))
          exact ⟨hCk.out.keep, hCk.out.kp, v, D, LB.out, by rw [HAP.out, HN.out]; exact O.out, by rw [HAP.out, HN.out]; exact OM.out, by rw [HAP.out, HN.out]; exact HLK.out, MV.out, FN.out, C.out, P.out, hB.out⟩
      · have HN := Go.Lib.hid (show stp (goodP s a c ax d) (sgP ax d) L ⟨(x, y), hx8, hy8⟩ = L by unfold stp; rw [HGO2, hw1]; rfl)
        rw [hw1] at HX
        clear hw1 HGO2 hme
        gi_wp2_with (first
          | ((with_reducible refine wAtI 26 rfl ?_); refine ldmI 34 (.tmp 2) rfl (by first | exact want_n rfl | exact want_g _ _ _ rfl rfl rfl) w.heap.size 0 rfl 266 266 s.at _ rw_sheet size_sheet P.out (by omega) ?_; rw [sh_row])
          | ((with_reducible refine wAtI 27 rfl ?_); refine ldmI 111 (.tmp 9) rfl (by first | exact want_n rfl | exact want_g _ _ _ rfl rfl rfl) pb 0 rfl 2 2 (spAt u z) _ rw_spot size_spot Q.out (by omega) ?_; rw [sp_row])
          | ((with_reducible refine wAtI 31 rfl ?_); refine ldmI 34 (.tmp 2) rfl (by first | exact want_n rfl | exact want_g _ _ _ rfl rfl rfl) w.heap.size 0 rfl 266 266 s.at _ rw_sheet size_sheet P.out (by omega) ?_; rw [sh_row])
          | ((with_reducible refine wAtI 32 rfl ?_); refine ldmI 111 (.tmp 8) rfl (by first | exact want_n rfl | exact want_g _ _ _ rfl rfl rfl) Bx 0 rfl 2 2 (spAt x y) _ rw_spot size_spot R.out (by omega) ?_; rw [sp_row])
          | ((with_reducible refine wAtI 36 rfl ?_); refine ldmI 34 (.tmp 2) rfl (by first | exact want_n rfl | exact want_g _ _ _ rfl rfl rfl) w.heap.size 0 rfl 266 266 s.at _ rw_sheet size_sheet P.out (by omega) ?_; rw [sh_row])
          | ((with_reducible refine wAtI 37 rfl ?_); refine ldmI 111 (.tmp 9) rfl (by first | exact want_n rfl | exact want_g _ _ _ rfl rfl rfl) pb 0 rfl 2 2 (spAt u z) _ rw_spot size_spot Q.out (by omega) ?_; rw [sp_row])
          | ((with_reducible refine wAtI 41 rfl ?_); refine ld1I 150 (.tmp 7) rfl (by first | exact want_n rfl | exact want_g _ _ _ rfl rfl rfl) (q + 1 + 1 + 1) 0 rfl 1 (fun _ => .map (some (q + 1 + 1))) _ rw_mtP MV.out (by omega) ?_)
          | ((with_reducible refine wAtI 42 rfl ?_); refine ldmI 111 (.tmp 9) rfl (by first | exact want_n rfl | exact want_g _ _ _ rfl rfl rfl) pb 0 rfl 2 2 (spAt u z) _ rw_spot size_spot Q.out (by omega) ?_; rw [sp_row])
          | ((with_reducible refine wAtI 43 rfl ?_); refine ldmI 111 (.tmp 8) rfl (by first | exact want_n rfl | exact want_g _ _ _ rfl rfl rfl) Bx 0 rfl 2 2 (spAt x y) _ rw_spot size_spot R.out (by omega) ?_; rw [sp_row])
          | ((with_reducible refine wAtI 44 rfl ?_); refine builtI (by first | exact want_n rfl | exact want_g _ _ _ rfl rfl rfl) 130 [(0, .tmp 42), (1, .tmp 43)] rfl [(0, .agg #[.int .i8 u, .int .i8 z]), (1, .agg #[.int .i8 x, .int .i8 y])] (by rfl) _ (built_prt u z x y) ?_)
          | ((with_reducible refine wAtI 45 rfl ?_); refine lookI (.tmp 41) (.tmp 44) 150 rfl (by first | exact want_n rfl | exact want_g _ _ _ rfl rfl rfl) 130 4 keyed_pr Tryd.underlying150 Tryd.underlying4 (zero_boolP _) (q + 1 + 1) _ D rfl OM.out _ k1 rfl HK1.out ?_; intro cb hcb; rw [HAT.out] at hcb; cases hcb)
          | (refine ⟨trivial, ?_⟩; gi_at_call 77; (refine (callsFW (ro := some _) (HH.out _)).mono ?_; rintro e w3 ⟨rfl, hb⟩; replace hCk := Go.Lib.hid (hCk.out.step (grown_next (grown_refl _ none) hb) (fun j e => by cases e)); replace O := Go.Lib.hid (O.out.kept (grown_next (grown_refl _ none) hb) (by cases hv : Value.ownBlock _ <;> simp)); replace OM := Go.Lib.hid (OM.out.kept (grown_next (grown_refl _ none) hb) (by simp)); replace R := Go.Lib.hid (row_next hb R.out); replace P := Go.Lib.hid (row_next hb P.out); replace C := Go.Lib.hid (row_next hb C.out); replace FN := Go.Lib.hid (row_next hb FN.out); replace LB := Go.Lib.hid (row_next hb LB.out); replace MV := Go.Lib.hid (row_next hb MV.out); replace Q := Go.Lib.hid (row_next hb Q.out); replace hB := Go.Lib.hid (below_next hB.out hb); have hrl3 := Nat.le_trans hrl3 hb.size; clear hb))
          | (refine ⟨trivial, ?_⟩; gi_at_call 114; (refine (callsFW (ro := some _) (HX.out _)).mono ?_; rintro e w3 ⟨rfl, hb⟩; replace hCk := Go.Lib.hid (hCk.out.step (grown_next (grown_refl _ none) hb) (fun j e => by cases e)); replace O := Go.Lib.hid (O.out.kept (grown_next (grown_refl _ none) hb) (by cases hv : Value.ownBlock _ <;> simp)); replace OM := Go.Lib.hid (OM.out.kept (grown_next (grown_refl _ none) hb) (by simp)); replace R := Go.Lib.hid (row_next hb R.out); replace P := Go.Lib.hid (row_next hb P.out); replace C := Go.Lib.hid (row_next hb C.out); replace FN := Go.Lib.hid (row_next hb FN.out); replace LB := Go.Lib.hid (row_next hb LB.out); replace MV := Go.Lib.hid (row_next hb MV.out); replace Q := Go.Lib.hid (row_next hb Q.out); replace hB := Go.Lib.hid (below_next hB.out hb); have hrl3 := Nat.le_trans hrl3 hb.size; clear hb))
          | ((with_reducible refine wAtI 31 rfl ?_); refine skipI 31 rfl rfl rfl ?_)
          | ((with_reducible refine wAtI 32 rfl ?_); refine skipI 32 rfl rfl rfl ?_)
          | ((with_reducible refine wAtI 33 rfl ?_); refine skipI 33 rfl rfl rfl ?_)
          | ((with_reducible refine wAtI 36 rfl ?_); refine skipI 36 rfl rfl rfl ?_)
          | ((with_reducible refine wAtI 37 rfl ?_); refine skipI 37 rfl rfl rfl ?_)
          | ((with_reducible refine wAtI 38 rfl ?_); refine skipI 38 rfl rfl rfl ?_)
          | ((with_reducible refine wAtI 41 rfl ?_); refine skipI 41 rfl rfl rfl ?_)
          | ((with_reducible refine wAtI 42 rfl ?_); refine skipI 42 rfl rfl rfl ?_)
          | ((with_reducible refine wAtI 43 rfl ?_); refine skipI 43 rfl rfl rfl ?_)
          | ((with_reducible refine wAtI 44 rfl ?_); refine skipI 44 rfl rfl rfl ?_)
          | ((with_reducible refine wAtI 45 rfl ?_); refine skipI 45 rfl rfl rfl ?_))
        exact ⟨hCk.out.keep, hCk.out.kp, v, D, LB.out, by rw [HAP.out, HN.out]; exact O.out, by rw [HAP.out, HN.out]; exact OM.out, by rw [HAP.out, HN.out]; exact HLK.out, MV.out, FN.out, C.out, P.out, hB.out⟩
  case done =>
    rintro D W hD ⟨v, Dm, LB, O, OM, hLk, MV, FN, C, P, hB⟩ hd
    rw [toSp_cells a c ha c (Nat.le_refl _) hc, prsL_st s ha hc] at O
    replace hd := Go.Lib.hid hd; replace hB := Go.Lib.hid hB; replace LB := Go.Lib.hid LB
    clear FN P C MV OM hLk
    go_wp2_with (first
      | ((with_reducible refine wlAt 56 rfl ?_); refine wpList_load1 rfl 102 (.tmp 6) rfl (q + 1) 0 rfl 1 (fun _ => v) _ _ Tryd.underlying102 rfl LB.out (by omega) ?_))
    have hlt := row_lt hd.out
    refine leaveB rfl hd.out (results_tmp rfl _ _ _) ?_
    exact ⟨v, rfl, own_put (own_mono (by have := hB.out.size; omega) O) hd.out, below_putB _ hB.out (by omega) hlt⟩
  case stop =>
    rintro D c pre W hD h hd
    exact h.elim
theorem pairs_any (s : Sh) (ax : Int) (d : Bool) (pr : Int) (a c : Nat) (w : World) (hf : s.fit) (hv : (okI s && foldOk s ax d pr) = true) (hax : 1 ≤ ax ∧ ax ≤ 8) (ea : s.wide = a) (ec : s.high = c) (ha : a ≤ 8) (hc : c ≤ 8) :
    Calls Tryd.prog 67 #[.agg s.row, .agg (vrow 3 (foAt ax d pr))] w fun e w' => ∃ v, e = .returned v ∧ w'.ownsRow w.heap.size 130 4 v (prsL s a c ax d).length (vals4 ax d (prsL s a c ax d)) ∧ Below w.heap.size w w' := by
  cases d
  · exact pairs_gen s ax false pr a c 117 w hf (fun w => turn_any ax false pr w hax) (fun _ _ => by kernel_rfl) (fun x y b W hx hy h => turn2_any x y (2 * ax - 1) b W h (by omega)) hv hax ea ec ha hc
  · exact pairs_gen s ax true pr a c 116 w hf (fun w => turn_any ax true pr w hax) (fun _ _ => by kernel_rfl) (fun x y b W hx hy h => turn1_any x y (2 * ax - 1) b W h (by omega)) hv hax ea ec ha hc
end Go.Proofs.YtmcpaangofdmpaaDoor
