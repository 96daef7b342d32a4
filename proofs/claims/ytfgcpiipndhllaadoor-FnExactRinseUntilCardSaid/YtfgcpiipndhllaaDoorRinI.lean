import Derived.Deep.RegionHeld3
import Derived.Test.YtfgcpiipndhllaaDoorRinS
import Derived.Test.YtfgcpiipndhllaaDoorDyeL
import Derived.Test.YtfgcpiipndhllaaDoorBr
namespace Go.Proofs.YtfgcpiipndhllaaDoor
open Go.RowKit
set_option maxRecDepth 100000
set_option linter.unusedVariables false
set_option linter.unusedSimpArgs false
attribute [local go_sem] Oper.semAt_some
def baAt (s : Sh) (k : Int) (i : Nat) : Value := if i < 266 then s.at i else .int .i64 k
theorem baAt_s (s : Sh) (k : Int) : vrow 266 (fun i => baAt s k (0 + i)) = vrow 266 s.at := vrow_ext _ _ _ fun i hi => by unfold baAt; rw [Nat.zero_add, if_pos hi]
theorem baAt_one (s : Sh) (k : Int) (i : Nat) : (baAt s k i).oneCell' = true := by
  unfold baAt
  split
  · exact s.one i
  · rfl
theorem baAt_0 (s : Sh) (k : Int) : baAt s k 0 = .int .i8 s.wide := by unfold baAt; rw [if_pos (by omega), Sh.at_0]
theorem baAt_1 (s : Sh) (k : Int) : baAt s k 1 = .int .i8 s.high := by unfold baAt; rw [if_pos (by omega), Sh.at_1]
theorem baAt_k (s : Sh) (k : Int) : baAt s k 266 = .int .i64 k := by unfold baAt; rw [if_neg (by omega)]
theorem baAt_dye (s : Sh) (k : Int) (o j : Nat) (ho : o = 66 + j) (hj : j < 192) : baAt s k o = .int .i16 (s.dye j) := by
  unfold baAt; rw [if_pos (by omega)]; exact Sh.at_dye1 s o j ho hj
theorem baAt_pd (s : Sh) (k : Int) (o j : Nat) (ho : o = 66 + j) (hj : j < 192) (v : Int) : vrow 267 (over (baAt s k) o 1 fun _ => .int .i16 v) = vrow 267 (baAt (s.pd j v) k) := vrow_ext _ _ _ fun i hi => by
  have key := congrArg (fun a : Array Value => a[i]?) (s.pd_at o j ho hj v)
  unfold over baAt
  by_cases h2 : i < 266
  · simp only [vrow_get 266 _ i h2, Option.some.injEq] at key
    rw [if_pos h2, if_pos h2, ← key]; rfl
  · rw [if_neg (by omega), if_neg h2, if_neg h2]
theorem size_ba : (Tryd.prog.info? 119).map (·.size) = some 267 := by kernel_rfl
theorem zero_ba : ∀ w, (zeroValue 119).run Tryd.prog w = .ok (.agg (vrow 267 (baAt Sh.zero 0))) w := fun _ => by kernel_rfl
theorem built_ba (s : Sh) (k : Int) : Tryd.prog.built 119 [(0, .agg (vrow 266 s.at)), (1, .int .i64 k)] = some (vrow 267 (baAt s k)) := by kernel_rfl
theorem rw_bap : (Tryd.prog.underlying 180).map (·.isRow) = some false := by kernel_rfl
theorem own_grown {β : Type} {w : World} {B : Nat} {row0 : Option Nat} (hB : w.heap.size ≤ B) : OwnFrom B (fun (_ : β) W => w.grownBy W row0) := fun _ W W' row hs hg hr =>
  ⟨hg.os.trans hs.os, hg.tape.trans hs.tape, hg.output.trans hs.output, Nat.le_trans hs.size hg.size, fun k hk hne => (hg.block k (Nat.lt_of_lt_of_le hk hs.size) (fun e => by have := (hr k e.symm).1; omega)).trans (hs.block k hk hne)⟩
theorem grown_put {w W : World} {row : Option Nat} {D : Nat} (x : Obj) (h : w.grownBy W row) (hD : w.heap.size ≤ D) : w.grownBy (W.putObj D x) row :=
  ⟨h.os, h.tape, h.output, by simpa using h.size, fun k hk hne => (World.putObj_heap_other (by omega)).trans (h.block k hk hne)⟩
theorem res_rowI {P : Program} {fn : Func} {p : Tmp} {ty : TypeId} (hr : fn.results = #[.cell p ty]) (tmps : Array Value) (w : World) (b : Nat) (n : Nat) (f : Nat → Value) (t : TypeId) (d : TypeDesc) (hu : P.underlying ty = some d) (hd : d.isRow = true) (hi : (P.info? ty).map (·.size) = some n)
    (hp : tmps.getD p undef = .pointer (some ⟨b, 0, none⟩)) (hg : w.heap[b]? = some (.cells (vrow n f) t)) : (results fn tmps).run P w = .ok (.agg (vrow n f)) w := by
  have hl := run_loadVar_row (P := P) w b t ty (vrow n f) (0, 0) d hg hu (by cases d <;> first | rfl | exact hd) (by rw [vrow_size]; exact hi)
  have hp1 : tmps[p]?.getD undef = .pointer (some ⟨b, 0, none⟩) := by simpa using hp
  simp [results, hr, hp1, asAddr, hl]
theorem wlAtI (d : Nat) {F : Fence} {n : Nat} {P : Program} {ops : Array Oper} {Q : Exit → Act → World → Prop} {l : List Oper} {o : Oper} {a : Act} {w : World} (_ : o.dst = some d) (h : wpListIn F n P ops Q (o :: l) a w) : wpListIn F n P ops Q (o :: l) a w := h
theorem wlOpI (p : Op) {F : Fence} {n : Nat} {P : Program} {ops : Array Oper} {Q : Exit → Act → World → Prop} {l : List Oper} {o : Oper} {a : Act} {w : World} (_ : o.op = p) (h : wpListIn F n P ops Q (o :: l) a w) : wpListIn F n P ops Q (o :: l) a w := h
theorem sub_norm' {d r : Int} (h1 : 0 ≤ d ∧ d ≤ 1000) (m1 : 0 ≤ r) (m2 : r ≤ d) : IntKind.i16.wrap (d - r) = d - r := IntWalk.i16_in (d - r) (by omega)
theorem add_norm' {d r : Int} (h1 : 0 ≤ d ∧ d ≤ 1000000) (m1 : 0 ≤ r) (m2 : r ≤ 1000) : IntKind.i64.wrap (d + IntKind.i64.wrap r) = d + r := by
  rw [IntWalk.i64_in r (by omega), IntWalk.i64_in (d + r) (by omega)]
theorem sixtV_any (v p : Int) (hv : 0 ≤ v ∧ v ≤ 1000) (hm : 0 ≤ v * p ∧ v * p ≤ 15000) (w : World) : Calls Tryd.prog 169 #[.int .i16 v, .int .i64 p] w fun e w' => e = .returned (.int .i16 ((v * p + 15) / 16)) ∧ Below w.heap.size w w' := by
  obtain ⟨hv1, hv2⟩ := hv
  obtain ⟨m1, m2⟩ := hm
  go_enter Tryd.func169, Tryd.ntmps169
  go_wp2
  go_ret
  refine ⟨?_, Below.refl _ _⟩
  show Ending.returned (Value.int .i16 _) = _
  first
    | rfl
    | (rw [IntWalk.i64_quo (v * p + 15) 16 (by omega), IntWalk.i16_in ((v * p + 15) / 16) (by omega)])
    | (simp only [IntWalk.i64_in v (by omega), IntWalk.i64_in (v * p) (by omega), IntWalk.i64_in (v * p + 15) (by omega), IntWalk.i64_quo (v * p + 15) 16 (by omega), IntWalk.i16_in ((v * p + 15) / 16) (by omega)])
    | (congr 2; rw [Int.tdiv_eq_ediv_of_nonneg (by omega)])
set_option maxRecDepth 100000 in
set_option maxHeartbeats 8000000 in
theorem irinse_any (s : Sh) (k : Int) (mt a c : Nat) (w : World) (hm : w.heap[mt]? = some (.cells (vrow 267 (baAt s k)) 119)) (ea : s.wide = a) (ec : s.high = c) (ha : 1 ≤ a ∧ a ≤ 8) (hc : 1 ≤ c ∧ c ≤ 8) (hgd : Gd s s) (h1 : 1 ≤ k) (h2 : k ≤ 15) :
    Calls Tryd.prog 125 #[(.pointer (some ⟨mt, 0, none⟩))] w fun e w' => e = .returned (.agg (vrow 3 (a3f (rinS k (s, fun _ => 0) (cellsL a c)).2))) ∧ w.grownBy w' (some mt) ∧ w'.heap[mt]? = some (.cells (vrow 267 (baAt (rinS k (s, fun _ => 0) (cellsL a c)).1 k)) 119) := by
  have HG := Go.Lib.hid fun l => RinG.cells h1 h2 l (RinG.start hgd fun _ => 0)
  have HI := Go.Lib.hid hgd.ink
  obtain ⟨ha1, ha8⟩ := ha
  obtain ⟨hc1, hc8⟩ := hc
  have zz := zero_i3
  have hmm := row_lt hm
  have M : Hid (((((w.alloc (.cells #[(.pointer (some ⟨mt, 0, none⟩))] 180)).alloc (.cells (vrow 3 fun _ => .int .i64 0) 40)).alloc (.cells (vrow 3 fun _ => .int .i64 0) 40))).heap[mt]? = some (.cells (vrow 267 (baAt s k)) 119)) := heap_past _ _ _ _ (by simp <;> omega) (heap_past _ _ _ _ (by simp <;> omega) (heap_past _ _ _ _ hmm hm))
  have X : Hid (((((w.alloc (.cells #[(.pointer (some ⟨mt, 0, none⟩))] 180)).alloc (.cells (vrow 3 fun _ => .int .i64 0) 40)).alloc (.cells (vrow 3 fun _ => .int .i64 0) 40))).heap[w.heap.size]? = some (.cells (vrow 1 fun _ => (.pointer (some ⟨mt, 0, none⟩))) 180)) := heap_past _ _ _ _ (by simp <;> omega) (heap_past _ _ _ _ (by simp <;> omega) (heap_at _ _ _ (by simp)))
  have Z : Hid (((((w.alloc (.cells #[(.pointer (some ⟨mt, 0, none⟩))] 180)).alloc (.cells (vrow 3 fun _ => .int .i64 0) 40)).alloc (.cells (vrow 3 fun _ => .int .i64 0) 40))).heap[w.heap.size + 1]? = some (.cells (vrow 3 fun _ => .int .i64 0) 40)) := heap_past _ _ _ _ (by simp <;> omega) (heap_at _ _ _ (by simp))
  have D : Hid (((((w.alloc (.cells #[(.pointer (some ⟨mt, 0, none⟩))] 180)).alloc (.cells (vrow 3 fun _ => .int .i64 0) 40)).alloc (.cells (vrow 3 fun _ => .int .i64 0) 40))).heap[w.heap.size + 2]? = some (.cells (vrow 3 fun _ => .int .i64 0) 40)) := heap_at _ _ _ (by simp)
  have hG : Hid (w.grownBy ((((w.alloc (.cells #[(.pointer (some ⟨mt, 0, none⟩))] 180)).alloc (.cells (vrow 3 fun _ => .int .i64 0) 40)).alloc (.cells (vrow 3 fun _ => .int .i64 0) 40))) (some mt)) := grown_next (grown_refl w _) ((((Below.refl _ _).alloc (Nat.le_refl _) _).alloc (by simp) _).alloc (by simp <;> omega) _)
  clear hm hgd
  refine (callsIn_wide (n := 9)).1 ?_
  refine callsIn_of_wp_marks Tryd.func125 rfl trivial ?_ rfl
  simp only [Tryd.ntmps125, List.size_toArray, List.length_cons, List.length_nil, Nat.reduceAdd, Nat.reduceSub, Array.replicate_succ, Array.replicate_zero, List.push_toArray, List.append_toArray, List.nil_append, List.cons_append]
  refine wpIn_wide.2 ?_
  go_wp2
  refine wp_region_still_tail 10 (by kernel_rfl) (by kernel_rfl) ?_
  simp only [List.take_succ_cons, List.take_zero, List.drop_succ_cons, List.drop_zero, World.drew_eq]
  repeat (first
    | (refine wpStill_load1 rfl 180 (.tmp 1) rfl w.heap.size 0 rfl 1 (fun _ => (.pointer (some ⟨mt, 0, none⟩))) _ _ Tryd.underlying180 rfl X.out (by omega) ?_; simp only [Act.put, List.setIfInBounds_toArray, List.set_cons_succ, List.set_cons_zero])
    | (refine wpStill_load1 rfl 22 (.tmp 11) rfl mt 0 rfl 267 (baAt s k) _ _ Tryd.underlying22 rfl M.out (by omega) ?_; rw [baAt_0, ea]; simp only [Act.put, List.setIfInBounds_toArray, List.set_cons_succ, List.set_cons_zero])
    | (refine wpStill_load1 rfl 22 (.tmp 16) rfl mt 1 rfl 267 (baAt s k) _ _ Tryd.underlying22 rfl M.out (by omega) ?_; rw [baAt_1, ec]; simp only [Act.put, List.setIfInBounds_toArray, List.set_cons_succ, List.set_cons_zero])
    | still_step)
  refine wpStill_nil ?_
  replace M := Go.Lib.hid (drwS M.out); replace X := Go.Lib.hid (drwS X.out); replace Z := Go.Lib.hid (drwS Z.out); replace D := Go.Lib.hid (drwS D.out); replace hG := Go.Lib.hid (grown_drew hG.out)
  have hws0 : Hid ((World.drew ((((w.alloc (.cells #[(.pointer (some ⟨mt, 0, none⟩))] 180)).alloc (.cells (vrow 3 fun _ => .int .i64 0) 40)).alloc (.cells (vrow 3 fun _ => .int .i64 0) 40)))).heap.size = w.heap.size + 3) := Go.Lib.hid (by show ((((w.alloc (.cells #[(.pointer (some ⟨mt, 0, none⟩))] 180)).alloc (.cells (vrow 3 fun _ => .int .i64 0) 40)).alloc (.cells (vrow 3 fun _ => .int .i64 0) 40))).heap.size = _; simp only [World.size_alloc])
  generalize World.drew _ = Wn at M X Z D hG hws0 ⊢
  go_wp2_with (first
    | (go_at_call 154; refine (cells_any _ _ _).mono ?_; rintro e w2 ⟨rfl, rfl⟩))
  have hws := hws0.out
  clear hws0
  have c1 := heap_at (Wn.alloc (.cells #[.int .i8 a] 22)) (.cells #[.int .i8 c] 22) (Wn.heap.size + 1) (by simp)
  have c2 := heap_past (Wn.alloc (.cells #[.int .i8 a] 22)) (.cells #[.int .i8 c] 22) _ Wn.heap.size (by simp) (heap_at Wn (.cells #[.int .i8 a] 22) _ rfl)
  have hB1 : Below Wn.heap.size Wn ((Wn.alloc (.cells #[.int .i8 a] 22)).alloc (.cells #[.int .i8 c] 22)) := ((Below.refl _ _).alloc (Nat.le_refl _) _).alloc (by simp) _
  obtain ⟨W0, hW0⟩ : ∃ W0, (Wn.alloc (.cells #[.int .i8 a] 22)).alloc (.cells #[.int .i8 c] 22) = W0 := ⟨_, rfl⟩
  rw [hW0] at c1 c2 hB1 ⊢
  clear hW0
  rw [hws] at c1 c2
  try simp only [hws]
  replace M := row_next hB1 M.out; replace X := row_next hB1 X.out; replace Z := row_next hB1 Z.out; replace D := row_next hB1 D.out; replace hG := grown_next hG.out hB1
  rw [a3f_zero] at D
  have hs0 := row_lt c1
  have hgs := hG.size
  refine wp_cells (d := 4) (w.heap.size + 3 + 1) (w.heap.size + 3) a c ha8 hc8 rfl c1 c2
    (fun pre W => W.heap[mt]? = some (.cells (vrow 267 (baAt (rinS k (s, fun _ => 0) pre).1 k)) 119) ∧ W.heap[w.heap.size]? = some (.cells (vrow 1 fun _ => (.pointer (some ⟨mt, 0, none⟩))) 180) ∧ W.heap[w.heap.size + 1]? = some (.cells (vrow 3 fun _ => .int .i64 0) 40) ∧ W.heap[w.heap.size + 2]? = some (.cells (vrow 3 (a3f (rinS k (s, fun _ => 0) pre).2)) 40) ∧ w.grownBy W (some mt))
    (fun _ _ _ => False)
    (OwnFrom.and (own_rowD (o := fun pre => .cells (vrow 267 (baAt (rinS k (s, fun _ => 0) pre).1 k)) 119) (by omega)) (OwnFrom.and (own_row (by omega)) (OwnFrom.and (own_row (by omega)) (OwnFrom.and (own_rowD (o := fun pre => .cells (vrow 3 (a3f (rinS k (s, fun _ => 0) pre).2)) 40) (by omega)) (own_grown hgs)))))
    (fun c => own_pure _)
    ⟨M, X, Z, D, hG⟩ ?assign ?body ?done ?stop
  case assign =>
    intro l x W K hK
    simp only [List.setIfInBounds_toArray, List.set_cons_succ, List.set_cons_zero] at hK ⊢
    have zs := zero_spot
    gi_wp2_with (refine wpListIn_storeall rfl 33 (.tmp 4) (.tmp 19) rfl _ rfl 2 (spAt 0 0) (spAt x.1.1 x.1.2) rfl 33 size_spot (heap_at _ _ _ rfl) (fun i _ => spAt_one _ _ i) ?_; rw [setRow_at _ _ _ _ _ rfl])
    exact hK
  case body =>
    rintro l pre ⟨⟨x, y⟩, hx, hy⟩ Wb W Bx hK hBx R hsz ⟨M, X, Z, D, hG⟩ hlen
    simp only [List.setIfInBounds_toArray, List.set_cons_succ, List.set_cons_zero] at R ⊢
    clear zz c1 c2 hB1
    replace hx : x < 8 := hx
    replace hy : y < 8 := hy
    have hap : rinS k (s, fun _ => 0) (pre ++ [⟨(x, y), hx, hy⟩]) = rinN k (24 * y + 3 * x) (rinS k (s, fun _ => 0) pre) 3 := by unfold rinS; rw [List.foldl_append]; rfl
    have hrg := HG.out pre
    have HRG := Go.Lib.hid fun n hn => RinG.ink hrg h1 h2 hx hy n hn
    have HAP := Go.Lib.hid hap
    clear hap hrg HG
    generalize rinS k (s, fun _ => 0) pre = T at M D HAP HRG
    have nR := row_lt R
    have nM := row_lt M
    replace R := Go.Lib.hid R; replace M := Go.Lib.hid M; replace X := Go.Lib.hid X; replace Z := Go.Lib.hid Z; replace D := Go.Lib.hid D; replace hG := Go.Lib.hid hG; replace hK := Go.Lib.hid hK
    have hmW : mt < W0.heap.size := by omega
    gi_wp2
    gi_loopw [20] (fun zv wr => ∃ i : Nat, i ≤ 3 ∧ zv = .int .i64 i ∧ KeepsFrom W0.heap.size Wb wr ∧ Kp2 (w.heap.size + 3 + 1) (w.heap.size + 3) Wb wr ∧ wr.heap[mt]? = some (.cells (vrow 267 (baAt (rinN k (24 * y + 3 * x) T i).1 k)) 119) ∧ wr.heap[w.heap.size]? = some (.cells (vrow 1 fun _ => (.pointer (some ⟨mt, 0, none⟩))) 180) ∧ wr.heap[w.heap.size + 1]? = some (.cells (vrow 3 fun _ => .int .i64 0) 40) ∧ wr.heap[w.heap.size + 2]? = some (.cells (vrow 3 (a3f (rinN k (24 * y + 3 * x) T i).2)) 40) ∧ wr.heap[Bx]? = some (.cells (vrow 2 (spAt x y)) 33) ∧ w.grownBy wr (some mt)) (fun zv _ => 3 - (intOf zv).toNat)
    case atStart => exact ⟨0, by omega, rfl, keeps_below hK.out, Kp2.of_lt hK.out (by omega) (by omega), M.out, X.out, Z.out, D.out, R.out, hG.out⟩
    case round =>
      clear hK M X Z D R hG
      obtain ⟨i, hi, rfl, hk1, hk2, M, X, Z, D, R, hG⟩ := hrel
      replace M := Go.Lib.hid M; replace X := Go.Lib.hid X; replace Z := Go.Lib.hid Z; replace D := Go.Lib.hid D; replace R := Go.Lib.hid R; replace hG := Go.Lib.hid hG; replace hk1 := Go.Lib.hid hk1; replace hk2 := Go.Lib.hid hk2
      by_cases hli : i < 3
      · have hzI : (i : Int) < 3 := by omega
        have nW : Wb.heap.size ≤ wr.heap.size := hk1.out.size
        have hrg := HRG.out i hi
        obtain ⟨d1, d2⟩ := hrg.gd.ink (24 * y + 3 * x + i)
        obtain ⟨o1, o2⟩ := hrg.bd hli HI.out
        obtain ⟨r1, r2, m1, m2, _⟩ := rpart_bd h1 h2 d1
        have hs1 : rinN k (24 * y + 3 * x) T (i + 1) = ((rinN k (24 * y + 3 * x) T i).1.pd (24 * y + 3 * x + i) ((rinN k (24 * y + 3 * x) T i).1.dye (24 * y + 3 * x + i) - rpart k ((rinN k (24 * y + 3 * x) T i).1.dye (24 * y + 3 * x + i))), fun m => if m = i then (rinN k (24 * y + 3 * x) T i).2 m + rpart k ((rinN k (24 * y + 3 * x) T i).1.dye (24 * y + 3 * x + i)) else (rinN k (24 * y + 3 * x) T i).2 m) := rfl
        have HS1 := Go.Lib.hid hs1
        clear hs1 hrg
        generalize rinN k (24 * y + 3 * x) T i = U at M D HS1 o1 o2 d1 d2 r1 r2 m1 m2
        obtain ⟨U, oo⟩ := U
        have hu : ∃ d, U.dye (24 * y + 3 * x + i) = d := ⟨_, rfl⟩
        obtain ⟨d, hu⟩ := hu
        dsimp only at M D HS1 o1 o2 d1 d2 r1 r2 m1 m2
        rw [hu] at HS1 d1 d2 r1 r2 m1 m2
        have HU := Go.Lib.hid hu
        clear hu
        have HSX := Go.Lib.hid fun w => sixtV_any d k ⟨d1, d2⟩ ⟨m1, by omega⟩ w
        rw [show (d * k + 15) / 16 = rpart k d from rfl] at HSX
        gi_wp2
        (refine region_atI (by kernel_rfl) (by kernel_rfl) ?_; intro W hW; rw [hW] at hG hk1 hk2 M X Z D R nW; clear hW; have M' := Go.Lib.hid (cls_row' M.out); have X' := Go.Lib.hid (cls_row' X.out); have R' := Go.Lib.hid (cls_row' R.out); (repeat (first | go_big_quiet_skip | (refine wpQuiet_load1 180 _ rfl (by first | exact want_n rfl | exact want_g _ _ _ rfl rfl rfl) w.heap.size _ rfl 1 (fun _ => (.pointer (some ⟨mt, 0, none⟩))) _ rw_bap X'.out (by omega) ?_; simp only [Act.put, List.setIfInBounds_toArray, List.set_cons_succ, List.set_cons_zero]) | (refine wpQuiet_load1 22 _ rfl (by first | exact want_n rfl | exact want_g _ _ _ rfl rfl rfl) Bx _ rfl 2 (spAt x y) _ rw_i8 R'.out (by omega) ?_; (first | rw [spAt_0] | rw [spAt_1]); simp only [Act.put, List.setIfInBounds_toArray, List.set_cons_succ, List.set_cons_zero]) | go_big_quiet_step (fail))); refine wpQuiet_nil ?_; intro Wn hb; clear M' X' R'; replace M := Go.Lib.hid (row_next hb M.out); replace X := Go.Lib.hid (row_next hb X.out); replace Z := Go.Lib.hid (row_next hb Z.out); replace D := Go.Lib.hid (row_next hb D.out); replace R := Go.Lib.hid (row_next hb R.out); replace hG := Go.Lib.hid (grown_next hG.out hb); replace hk1 := Go.Lib.hid (hk1.out.trans (keeps_below hb)); replace hk2 := Go.Lib.hid (hk2.out.t (Kp2.of_lt hb (by omega) (by omega))); replace nW := Nat.le_trans nW hb.size; clear hb)
        gi_wp2
        (refine region_atI (by kernel_rfl) (by kernel_rfl) ?_; intro W hW; rw [hW] at hG hk1 hk2 M X Z D R nW; clear hW; have M' := Go.Lib.hid (cls_row' M.out); have X' := Go.Lib.hid (cls_row' X.out); (repeat (first | go_big_quiet_skip | (refine wpQuiet_load1 180 _ rfl (by first | exact want_n rfl | exact want_g _ _ _ rfl rfl rfl) w.heap.size _ rfl 1 (fun _ => (.pointer (some ⟨mt, 0, none⟩))) _ rw_bap X'.out (by omega) ?_; simp only [Act.put, List.setIfInBounds_toArray, List.set_cons_succ, List.set_cons_zero]) | (refine wpQuiet_load1 2 _ rfl (by first | exact want_n rfl | exact want_g _ _ _ rfl rfl rfl) mt 266 rfl 267 (baAt U k) _ rw_i64 M'.out (by omega) ?_; rw [baAt_k]; simp only [Act.put, List.setIfInBounds_toArray, List.set_cons_succ, List.set_cons_zero]) | (refine wpQuiet_load1 23 _ rfl (by first | exact want_n rfl | exact want_g _ _ _ rfl rfl rfl) mt _ rfl 267 (baAt U k) _ rw_i16 M'.out (by omega) ?_; rw [baAt_dye _ _ _ (24 * y + 3 * x + i) (by omega) (by omega), HU.out]; simp only [Act.put, List.setIfInBounds_toArray, List.set_cons_succ, List.set_cons_zero]) | go_big_quiet_step ((go_at_call 169; with_reducible exact cls_call _ (fun w hw => HSX.out w))))); refine wpQuiet_nil ?_; intro Wn hb; clear M' X'; replace M := Go.Lib.hid (row_next hb M.out); replace X := Go.Lib.hid (row_next hb X.out); replace Z := Go.Lib.hid (row_next hb Z.out); replace D := Go.Lib.hid (row_next hb D.out); replace R := Go.Lib.hid (row_next hb R.out); replace hG := Go.Lib.hid (grown_next hG.out hb); replace hk1 := Go.Lib.hid (hk1.out.trans (keeps_below hb)); replace hk2 := Go.Lib.hid (hk2.out.t (Kp2.of_lt hb (by omega) (by omega))); replace nW := Nat.le_trans nW hb.size; clear hb)
        have hsub := sub_norm' ⟨d1, d2⟩ r1 r2
        have hon := add_norm' ⟨o1, (show oo i ≤ 1000000 by omega)⟩ r1 (by omega)
        have HSB := Go.Lib.hid hsub; have HON := Go.Lib.hid hon
        clear hsub hon
        gi_wp2_with (first
          | ((with_reducible refine wlAtI 45 rfl ?_); refine wpListIn_load1 rfl 23 (.tmp 44) rfl mt _ rfl 267 (baAt U k) _ _ Tryd.underlying23 rfl M.out (by omega) ?_; rw [baAt_dye _ _ _ (24 * y + 3 * x + i) (by omega) (by omega), HU.out]; simp only [Act.put, List.setIfInBounds_toArray, List.set_cons_succ, List.set_cons_zero])
          | ((with_reducible refine wlOpI (.store 23 (.tmp 48) (.tmp 47)) rfl ?_); refine wpListIn_store1 rfl 23 (.tmp 48) (.tmp 47) rfl mt _ rfl 267 (baAt U k) (.int .i16 (d - rpart k d)) (by rw [← HSB.out]; rfl) 119 size_i16 M.out (by omega) rfl ?_; rw [baAt_pd _ _ _ (24 * y + 3 * x + i) (by omega) (by omega)]; replace hk1 := Go.Lib.hid (hk1.out.trans (keeps_setRow M.out (vrow 267 (baAt (U.pd (24 * y + 3 * x + i) (d - rpart k d)) k)))); replace hk2 := Go.Lib.hid (hk2.out.setRow (show w.heap.size + 3 + 1 ≠ mt by omega) (show w.heap.size + 3 ≠ mt by omega) (vrow 267 (baAt (U.pd (24 * y + 3 * x + i) (d - rpart k d)) k))); replace X := Go.Lib.hid (row_set' (g := mt) (show w.heap.size ≠ mt by omega) X.out (vrow 267 (baAt (U.pd (24 * y + 3 * x + i) (d - rpart k d)) k))); replace Z := Go.Lib.hid (row_set' (g := mt) (show w.heap.size + 1 ≠ mt by omega) Z.out (vrow 267 (baAt (U.pd (24 * y + 3 * x + i) (d - rpart k d)) k))); replace D := Go.Lib.hid (row_set' (g := mt) (show w.heap.size + 2 ≠ mt by omega) D.out (vrow 267 (baAt (U.pd (24 * y + 3 * x + i) (d - rpart k d)) k))); replace R := Go.Lib.hid (row_set' (g := mt) (show Bx ≠ mt by omega) R.out (vrow 267 (baAt (U.pd (24 * y + 3 * x + i) (d - rpart k d)) k))); replace M := Go.Lib.hid (row_set M.out (vrow 267 (baAt (U.pd (24 * y + 3 * x + i) (d - rpart k d)) k))); replace hG := Go.Lib.hid (grown_set hG.out (vrow 267 (baAt (U.pd (24 * y + 3 * x + i) (d - rpart k d)) k))))
          | ((with_reducible refine wlAtI 51 rfl ?_); refine wpListIn_load1 rfl 2 (.tmp 50) rfl (w.heap.size + 2) i rfl 3 (a3f oo) _ _ Tryd.underlying2 rfl D.out (by omega) ?_; rw [show a3f oo i = .int .i64 (oo i) from rfl]; simp only [Act.put, List.setIfInBounds_toArray, List.set_cons_succ, List.set_cons_zero])
          | ((with_reducible refine wlOpI (.store 2 (.tmp 55) (.tmp 54)) rfl ?_); refine wpListIn_store1 rfl 2 (.tmp 55) (.tmp 54) rfl (w.heap.size + 2) i rfl 3 (a3f oo) (.int .i64 (oo i + rpart k d)) (by rw [← HON.out]; rfl) 40 size_i64c D.out (by omega) rfl ?_; rw [a3f_set]; replace hk1 := Go.Lib.hid (hk1.out.trans (keeps_setRow D.out (vrow 3 (a3f fun m => if m = i then oo i + rpart k d else oo m)))); replace hk2 := Go.Lib.hid (hk2.out.setRow (show w.heap.size + 3 + 1 ≠ w.heap.size + 2 by omega) (show w.heap.size + 3 ≠ w.heap.size + 2 by omega) (vrow 3 (a3f fun m => if m = i then oo i + rpart k d else oo m))); replace X := Go.Lib.hid (row_set' (g := w.heap.size + 2) (show w.heap.size ≠ w.heap.size + 2 by omega) X.out (vrow 3 (a3f fun m => if m = i then oo i + rpart k d else oo m))); replace Z := Go.Lib.hid (row_set' (g := w.heap.size + 2) (show w.heap.size + 1 ≠ w.heap.size + 2 by omega) Z.out (vrow 3 (a3f fun m => if m = i then oo i + rpart k d else oo m))); replace M := Go.Lib.hid (row_set' (g := w.heap.size + 2) (show mt ≠ w.heap.size + 2 by omega) M.out (vrow 3 (a3f fun m => if m = i then oo i + rpart k d else oo m))); replace R := Go.Lib.hid (row_set' (g := w.heap.size + 2) (show Bx ≠ w.heap.size + 2 by omega) R.out (vrow 3 (a3f fun m => if m = i then oo i + rpart k d else oo m))); replace D := Go.Lib.hid (row_set D.out (vrow 3 (a3f fun m => if m = i then oo i + rpart k d else oo m))); replace hG := Go.Lib.hid (grown_new hG.out (show w.heap.size ≤ w.heap.size + 2 by omega) (vrow 3 (a3f fun m => if m = i then oo i + rpart k d else oo m)))))
        go_roundw
        case rel =>
          refine ⟨i + 1, by omega, by go_num, hk1.out, hk2.out, ?_, X.out, Z.out, ?_, R.out, hG.out⟩
          · rw [HS1.out]; exact M.out
          · rw [HS1.out]
            have e : vrow 3 (a3f fun m => if m = i then oo m + rpart k d else oo m) = vrow 3 (a3f fun m => if m = i then oo i + rpart k d else oo m) := vrow_ext _ _ _ fun m _ => by
              unfold a3f
              dsimp only
              split
              · rename_i e; rw [e]
              · rfl
            dsimp only
            rw [e]; exact D.out
        case measure => simp [intOf]; omega
      · obtain rfl : i = 3 := by omega
        gi_wp2
        rw [← HAP.out] at M D
        exact ⟨hk1.out, hk2.out, M.out, X.out, Z.out, D.out, hG.out⟩
  case done =>
    rintro DD W hDD ⟨M, X, Z, D, hG⟩ hd
    replace M := Go.Lib.hid M; replace X := Go.Lib.hid X; replace Z := Go.Lib.hid Z; replace hd := Go.Lib.hid hd; replace hG := Go.Lib.hid hG; replace D := Go.Lib.hid D
    go_wp2_with (first
      | (with_reducible refine wlAt 57 rfl ?_; refine wpList_loadall rfl 40 (.tmp 3) rfl _ rfl 3 (a3f (rinS k (s, fun _ => 0) (cellsL a c)).2) 40 _ Tryd.underlying40 rfl size_i3 D.out ?_)
      | ((with_reducible refine wlOp (.store 40 (.tmp 2) (.tmp 57)) rfl ?_); refine wpList_storeall rfl 40 (.tmp 2) (.tmp 57) rfl (w.heap.size + 1) rfl 3 (fun _ => .int .i64 0) (a3f (rinS k (s, fun _ => 0) (cellsL a c)).2) rfl 40 size_i3 Z.out (fun i _ => rfl) ?_))
    have hlt := row_lt hd.out
    have Z' := row_set Z.out (vrow 3 (a3f (rinS k (s, fun _ => 0) (cellsL a c)).2))
    have hG' := grown_new hG.out (show w.heap.size ≤ w.heap.size + 1 by omega) (vrow 3 (a3f (rinS k (s, fun _ => 0) (cellsL a c)).2))
    refine leaveM rfl ((setRow_other _ _ DD _ (by omega)).trans hd.out) (res_rowI Tryd.results125 _ _ (w.heap.size + 1) 3 (a3f (rinS k (s, fun _ => 0) (cellsL a c)).2) 40 _ Tryd.underlying40 rfl size_i3 rfl (row_put Z' (by omega))) ?_
    exact ⟨rfl, grown_put _ hG' (by omega), row_put (row_set' (by omega) M.out _) (by omega)⟩
  case stop =>
    rintro D c pre W hD h hd
    exact h.elim
end Go.Proofs.YtfgcpiipndhllaaDoor
