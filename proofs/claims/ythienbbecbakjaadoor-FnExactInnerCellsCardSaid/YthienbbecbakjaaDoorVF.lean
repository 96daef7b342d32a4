import Derived.Deep.RegionHeld3
import Derived.Test.YthienbbecbakjaaDoorBeside
import Derived.Test.YthienbbecbakjaaDoorGive
import Derived.Test.YthienbbecbakjaaDoorArrBase
import Derived.Test.YthienbbecbakjaaDoorAsked
import Derived.Test.YthienbbecbakjaaDoorGdB
import Derived.Test.YthienbbecbakjaaDoorSpots
import Derived.Test.YthienbbecbakjaaDoorClos
import Derived.OwnWalkIn
import Derived.Test.YthienbbecbakjaaDoorG1
import Derived.Test.YthienbbecbakjaaDoorCellsN
import Derived.Test.YthienbbecbakjaaDoorBr
import Derived.Test.YthienbbecbakjaaDoorBest
namespace Go.Proofs.YthienbbecbakjaaDoor
open Go.RowKit
set_option maxRecDepth 100000
set_option linter.unusedVariables false
set_option linter.unusedSimpArgs false
set_option linter.unusedSimpArgs false
theorem wet_free {s : Sh} (hv : okI s = true) {x y : Nat} (hx : x < 8) (hy : y < 8) (hh : hasB s x y = true) (hw : s.wet (8 * y + x) ≠ 0) : freeB s x y = true := by
  unfold freeB
  rw [hh, Int.toNat_natCast, Int.toNat_natCast]
  cases hx2 : waxB s x y
  · rfl
  · exfalso
    simp only [okI, Bool.and_eq_true, List.all_eq_true] at hv
    have h : validB s x y = true := hv.2.2 ⟨(x, y), hx, hy⟩ (mem_cells _)
    unfold validB at h
    rw [hh, if_pos rfl, hx2, if_pos rfl] at h
    unfold bareB at h
    simp only [Bool.and_eq_true, beq_iff_eq] at h
    exact hw h.1
end Go.Proofs.YthienbbecbakjaaDoor
namespace Go.Proofs.YthienbbecbakjaaDoor
open Go.RowKit
set_option maxRecDepth 100000
set_option linter.unusedVariables false
set_option linter.unusedSimpArgs false
theorem giveInks_other (T : Sh) (x y u v : Nat) (wt : Int) (i : Nat) (h : ∀ m, m < 3 → i ≠ 24 * y + 3 * x + m ∧ i ≠ 24 * v + 3 * u + m) : ∀ k, k ≤ 3 → (giveInks T x y u v wt k).dye i = T.dye i
  | 0, _ => rfl
  | k + 1, hk => by
    have ih := giveInks_other T x y u v wt i h k (by omega)
    obtain ⟨h1, h2⟩ := h k (by omega)
    show (if i = 24 * v + 3 * u + k then _ else if i = 24 * y + 3 * x + k then _ else (giveInks T x y u v wt k).dye i) = _
    rw [if_neg h2, if_neg h1, ih]
theorem giveS_wet (T : Sh) (x y u v i : Nat) : (giveS T x y u v).wet i = if i = 8 * v + u then T.wet (8 * v + u) + 1 else if i = 8 * y + x then T.wet (8 * y + x) - 1 else T.wet i := by
  show (if i = 8 * v + u then _ else if i = 8 * y + x then _ else (giveInks T x y u v (T.wet (8 * y + x)) 3).wet i) = _
  rw [giveInks_wet]
theorem giveS_dye (T : Sh) (x y u v i : Nat) : (giveS T x y u v).dye i = (giveInks T x y u v (T.wet (8 * y + x)) 3).dye i := rfl
theorem giveInks_wax (T : Sh) (x y u v : Nat) (wt : Int) : ∀ k, (giveInks T x y u v wt k).wax = T.wax ∧ (giveInks T x y u v wt k).wide = T.wide ∧ (giveInks T x y u v wt k).high = T.high
  | 0 => ⟨rfl, rfl, rfl⟩
  | k + 1 => giveInks_wax T x y u v wt k
theorem free_parts {s : Sh} {x y : Nat} (h : freeB s x y = true) : hasB s x y = true ∧ waxB s x y = false := by
  unfold freeB at h
  rw [Int.toNat_natCast, Int.toNat_natCast] at h
  simpa using h
theorem has_like {s T : Sh} (h : Gd s T) (x y : Int) : hasB T x y = hasB s x y := by unfold hasB; rw [h.wide, h.high]
theorem wax_like {s T : Sh} (h : Gd s T) (x y : Nat) : waxB T x y = waxB s x y := by unfold waxB; rw [h.wax]
theorem free_like {s T : Sh} (h : Gd s T) (x y : Int) : freeB T x y = freeB s x y := by unfold freeB; rw [has_like h, wax_like h]
theorem nbs_like {s T : Sh} (h : Gd s T) (x y : Int) : ∀ k, nbs T x y k = nbs s x y k
  | 0 => rfl
  | k + 1 => by show nbs T x y k ++ _ = nbs s x y k ++ _; rw [nbs_like h x y k, free_like h]
theorem valid_congr {S T : Sh} {i j : Nat} (hh : hasB S i j = hasB T i j) (hx : waxB S i j = waxB T i j) (w0 : S.wet (8 * j + i) = T.wet (8 * j + i)) (d0 : ∀ m, m < 3 → S.dye (24 * j + 3 * i + m) = T.dye (24 * j + 3 * i + m)) : validB S i j = validB T i j := by
  have q0 := d0 0 (by omega)
  have q1 := d0 1 (by omega)
  have q2 := d0 2 (by omega)
  rw [Nat.add_zero] at q0
  unfold validB bareB dOk wOk
  simp only [Nat.add_zero, hh, hx, w0, q0, q1, q2]
theorem Gd.give {s T : Sh} (h : Gd s T) {x y u v : Nat} (hx : x < 8) (hy : y < 8) (hu : u < 8) (hv : v < 8) (f1 : freeB s x y = true) (f2 : freeB s u v = true) (hne : 8 * y + x ≠ 8 * v + u) (hw : 2 ≤ T.wet (8 * y + x) - T.wet (8 * v + u)) : Gd s (giveS T x y u v) := by
  obtain ⟨⟨a1, a2⟩, _⟩ := ok_bounds T h.ok x y hx hy
  obtain ⟨⟨b1, b2⟩, _⟩ := ok_bounds T h.ok u v hu hv
  have hw1 : 1 ≤ T.wet (8 * y + x) := by omega
  have hi : InkOk (giveS T x y u v) := fun i => by rw [giveS_dye]; exact giveInks_ok h.ink hw1 3 i
  obtain ⟨g1, g2, g3⟩ := giveInks_wax T x y u v (T.wet (8 * y + x)) 3
  have e1 : (giveS T x y u v).wax = T.wax := g1
  have e2 : (giveS T x y u v).wide = T.wide := g2
  have e3 : (giveS T x y u v).high = T.high := g3
  refine ⟨e1.trans h.wax, e2.trans h.wide, e3.trans h.high, ?_, hi, ?_⟩
  · obtain ⟨hd, hV⟩ := (okI_iff T).1 h.ok
    refine (okI_iff _).2 ⟨by rw [e2, e3]; exact hd, fun i j hi8 hj8 => ?_⟩
    have hh : ∀ i j, hasB (giveS T x y u v) i j = hasB T i j := fun i j => by unfold hasB; rw [e2, e3]
    have hx : ∀ i j, waxB (giveS T x y u v) i j = waxB T i j := fun i j => by unfold waxB; rw [e1]
    by_cases hc : (i = x ∧ j = y) ∨ (i = u ∧ j = v)
    · have hfree : hasB T i j = true ∧ waxB T i j = false := by
        rw [has_like h, wax_like h]
        rcases hc with ⟨rfl, rfl⟩ | ⟨rfl, rfl⟩
        · exact free_parts f1
        · exact free_parts f2
      have hwb : 0 ≤ (giveS T x y u v).wet (8 * j + i) ∧ (giveS T x y u v).wet (8 * j + i) ≤ 200 := by
        rw [giveS_wet]
        rcases hc with ⟨rfl, rfl⟩ | ⟨rfl, rfl⟩
        · rw [if_neg hne, if_pos rfl]; omega
        · rw [if_pos rfl]; omega
      have d0 := hi (24 * j + 3 * i)
      have d1 := hi (24 * j + 3 * i + 1)
      have d2 := hi (24 * j + 3 * i + 2)
      unfold validB
      rw [hh, hx, hfree.1, hfree.2]
      simp only [if_true, Bool.false_eq_true, if_false, dOk, wOk, Nat.add_zero, Bool.and_eq_true, decide_eq_true_eq]
      refine ⟨⟨?_, ?_, ?_⟩, ?_⟩ <;> first | omega | (constructor <;> omega)
    · have w0 : (giveS T x y u v).wet (8 * j + i) = T.wet (8 * j + i) := by
        rw [giveS_wet, if_neg (by omega), if_neg (by omega)]
      have d0 : ∀ m, m < 3 → (giveS T x y u v).dye (24 * j + 3 * i + m) = T.dye (24 * j + 3 * i + m) := fun m hm => by
        rw [giveS_dye]
        exact giveInks_other T x y u v _ _ (fun k hk => by omega) 3 (Nat.le_refl _)
      rw [valid_congr (hh i j) (hx i j) w0 d0]
      exact hV i j hi8 hj8
  · refine ⟨by rw [e2]; exact h.fit.wide, by rw [e3]; exact h.fit.high, fun i hi8 => ?_, fun i _ => by have := hi i; omega, fun i hi8 => by rw [e1]; exact h.fit.wax i hi8⟩
    rw [giveS_wet]
    have := h.fit.wet i hi8
    by_cases c1 : i = 8 * v + u
    · rw [if_pos c1]; omega
    · rw [if_neg c1]
      by_cases c2 : i = 8 * y + x
      · rw [if_pos c2]; omega
      · rw [if_neg c2]; exact this
/-- a unit goes, if it may; the sheet, and how many have gone -/
def gv (x y : Nat) (T : Sh × Int) (q : Sp8) : Sh × Int := if 2 ≤ T.1.wet (8 * y + x) - T.1.wet (8 * q.1.2 + q.1.1) then (giveS T.1 x y q.1.1 q.1.2, T.2 + 1) else T
/-- all that a cell gives -/
def cellRun (s : Sh) (T : Sh × Int) (p : Sp8) : Sh × Int := if waxB s p.1.1 p.1.2 then T else (nbs s p.1.1 p.1.2 4).foldl (gv p.1.1 p.1.2) T
def runS (s : Sh) (l : List Sp8) : Sh × Int := l.foldl (cellRun s) (s, 0)
theorem nbs_mem {s : Sh} (hok : okI s = true) {x y : Nat} (hx : x < 8) (hy : y < 8) {q : Sp8} : ∀ k, k ≤ 4 → q ∈ nbs s x y k → freeB s q.1.1 q.1.2 = true ∧ 8 * y + x ≠ 8 * q.1.2 + q.1.1
  | 0, _, h => by simp [nbs] at h
  | k + 1, hk, h => by
    rw [show nbs s x y (k + 1) = nbs s x y k ++ (if freeB s (nextX x k) (nextY y k) then [mk8 (nextX x k).toNat (nextY y k).toNat] else []) from rfl, List.mem_append] at h
    rcases h with h | h
    · exact nbs_mem hok hx hy k (by omega) h
    · cases hf : freeB s (nextX x k) (nextY y k)
      · rw [hf] at h; simp at h
      · rw [hf, if_pos rfl, List.mem_singleton] at h
        obtain ⟨m1, m2⟩ := mk_next hok hf
        subst h
        rw [m1, m2]
        refine ⟨hf, ?_⟩
        generalize mk8 (nextX (x : Int) k).toNat (nextY (y : Int) k).toNat = q at m1 m2 ⊢
        have : k = 0 ∨ k = 1 ∨ k = 2 ∨ k = 3 := by omega
        rcases this with rfl | rfl | rfl | rfl <;> simp only [nextX, nextY] at m1 m2 <;> omega
theorem gv_gd {s : Sh} {x y : Nat} (hok : okI s = true) (hx : x < 8) (hy : y < 8) (f1 : freeB s x y = true) {T : Sh × Int} (h : Gd s T.1) {q : Sp8} (hq : q ∈ nbs s x y 4) : Gd s (gv x y T q).1 := by
  obtain ⟨f2, hne⟩ := nbs_mem hok hx hy 4 (Nat.le_refl _) hq
  unfold gv
  by_cases c : 2 ≤ T.1.wet (8 * y + x) - T.1.wet (8 * q.1.2 + q.1.1)
  · rw [if_pos c]; exact h.give hx hy q.2.1 q.2.2 f1 f2 hne c
  · rw [if_neg c]; exact h
theorem gv_cnt (x y : Nat) (T : Sh × Int) (q : Sp8) : T.2 ≤ (gv x y T q).2 ∧ (gv x y T q).2 ≤ T.2 + 1 := by
  unfold gv
  split
  · exact ⟨by show T.2 ≤ T.2 + 1; omega, by show T.2 + 1 ≤ T.2 + 1; omega⟩
  · exact ⟨by omega, by omega⟩
theorem fold_gd {s : Sh} {x y : Nat} (hok : okI s = true) (hx : x < 8) (hy : y < 8) (f1 : freeB s x y = true) : ∀ (l : List Sp8), (∀ q ∈ l, q ∈ nbs s x y 4) → ∀ T : Sh × Int, Gd s T.1 → Gd s (l.foldl (gv x y) T).1 ∧ T.2 ≤ (l.foldl (gv x y) T).2 ∧ (l.foldl (gv x y) T).2 ≤ T.2 + l.length
  | [], _, T, h => ⟨h, by simp, by simp⟩
  | q :: l, hl, T, h => by
    obtain ⟨r1, r2, r3⟩ := fold_gd hok hx hy f1 l (fun q hq => hl q (List.mem_cons_of_mem _ hq)) (gv x y T q) (gv_gd hok hx hy f1 h (hl q List.mem_cons_self))
    have := gv_cnt x y T q
    rw [List.foldl_cons, List.length_cons]
    exact ⟨r1, by omega, by omega⟩
theorem cell_gd {s : Sh} (hok : okI s = true) {T : Sh × Int} (h : Gd s T.1) {p : Sp8} (hp : hasB s p.1.1 p.1.2 = true) : Gd s (cellRun s T p).1 ∧ T.2 ≤ (cellRun s T p).2 ∧ (cellRun s T p).2 ≤ T.2 + 4 := by
  unfold cellRun
  cases hw : waxB s p.1.1 p.1.2
  · rw [if_neg (by simp)]
    have f1 : freeB s p.1.1 p.1.2 = true := by unfold freeB; rw [hp, Int.toNat_natCast, Int.toNat_natCast, hw]; rfl
    obtain ⟨r1, r2, r3⟩ := fold_gd hok p.2.1 p.2.2 f1 (nbs s p.1.1 p.1.2 4) (fun _ h => h) T h
    have := nbs_len s p.1.1 p.1.2 4
    exact ⟨r1, r2, by omega⟩
  · rw [if_pos rfl]; exact ⟨h, by omega, by omega⟩
theorem runS_gd {s : Sh} (hok : okI s = true) : ∀ (l : List Sp8), (∀ p ∈ l, hasB s p.1.1 p.1.2 = true) → ∀ T : Sh × Int, Gd s T.1 → Gd s (l.foldl (cellRun s) T).1 ∧ T.2 ≤ (l.foldl (cellRun s) T).2 ∧ (l.foldl (cellRun s) T).2 ≤ T.2 + 4 * l.length
  | [], _, T, h => ⟨h, by simp, by simp⟩
  | p :: l, hl, T, h => by
    obtain ⟨a1, a2, a3⟩ := cell_gd hok h (hl p List.mem_cons_self)
    obtain ⟨r1, r2, r3⟩ := runS_gd hok l (fun q hq => hl q (List.mem_cons_of_mem _ hq)) (cellRun s T p) a1
    rw [List.foldl_cons, List.length_cons]
    exact ⟨r1, by omega, by omega⟩
end Go.Proofs.YthienbbecbakjaaDoor
namespace Go.Proofs.YthienbbecbakjaaDoor
open Go.RowKit
set_option maxRecDepth 100000
set_option linter.unusedVariables false
set_option linter.unusedSimpArgs false
def hasL (l : List Sp8) (u v : Int) : Bool := l.any fun p => ((p.1.1 : Int) == u) && ((p.1.2 : Int) == v)
theorem hasL_app (l m : List Sp8) (u v : Int) : hasL (l ++ m) u v = (hasL l u v || hasL m u v) := by simp [hasL]
theorem hasL_one (p : Sp8) (u v : Int) : hasL [p] u v = (((p.1.1 : Int) == u) && ((p.1.2 : Int) == v)) := by simp [hasL]
theorem hasL_take {l : List Sp8} {u v : Int} {k : Nat} (h : k < l.length) : hasL (l.take (k + 1)) u v = (hasL (l.take k) u v || hasL [l[k]] u v) := by
  rw [List.take_succ_eq_append_getElem h, hasL_app]
theorem hasL_grow {l : List Sp8} {u v : Int} {k : Nat} (h : hasL (l.take k) u v = true) : hasL l u v = true := by
  rw [← List.take_append_drop k l, hasL_app, h]; rfl
theorem spot_lit (x y : Int) : vrow 2 (spAt x y) = #[.int .i8 x, .int .i8 y] := rfl
theorem und_spot : Tryd.prog.underlying 61 = some (.struct (Tryd.prog.fieldsOf 61)) := by kernel_rfl
theorem stood_spot : Tryd.prog.stoodInHeld 61 = false := by kernel_rfl
theorem fields_spot : (Tryd.prog.fieldsOf 61).toList.map (fun f => (f.name, f.type, f.offset)) = [("X", 22, 0), ("Y", 22, 1)] := by kernel_rfl
theorem eq_sp (a b a' b' : Int) (w : World) : (Op.equalIn 10000 61 (.agg #[.int .i8 a, .int .i8 b]) (.agg #[.int .i8 a', .int .i8 b'])).run Tryd.prog w = .ok ((a == a') && (b == b')) w := by
  rw [run_equalIn_struct w 9999 _ _ _ und_spot stood_spot]
  have hl := fields_spot
  have ha : ∀ w, (isAgg 22).run Tryd.prog w = .ok false w := fun w => run_isAgg_row w _ _ Tryd.underlying22
  generalize (Tryd.prog.fieldsOf 61).toList = fs at hl ⊢
  rcases fs with _ | ⟨f1, _ | ⟨f2, _ | ⟨f3, fs⟩⟩⟩ <;> simp only [List.map_cons, List.map_nil, List.cons.injEq, Prod.mk.injEq, List.nil_eq, reduceCtorEq, and_false, and_true, false_and] at hl
  obtain ⟨⟨e1, e2, e3⟩, e4, e5, e6⟩ := hl
  simp only [Op.eqFields, e1, e2, e3, e4, e5, e6, part, Sem.run_bind, ha, Result.andThen_ok, Bool.false_eq_true, if_false]
  simp [run_equalIn_int w 9998 22 .i8 .i8 _ _ Tryd.underlying22]
  cases h1 : (a == a') <;> cases h2 : (b == b') <;> simp_all [run_equalIn_int w 9998 22 .i8 .i8 _ _ Tryd.underlying22]
theorem Owns.nil_cases {w : World} {base : Nat} {v : Value} {l : List Sp8} (h : Owns w base v l) (hl : l.length = 0) : ∃ b cap, v = .slice none 0 0 ∨ v = .slice (some ⟨b, 0, none⟩) 0 cap := by
  rcases h.own.2 with ⟨hv, _⟩ | ⟨g, cap, cur, hv, _⟩
  · exact ⟨0, 0, .inl hv⟩
  · exact ⟨g, cap, .inr (by rw [hv, hl])⟩
end Go.Proofs.YthienbbecbakjaaDoor
namespace Go.Proofs.YthienbbecbakjaaDoor
open Go.RowKit
set_option maxRecDepth 100000
set_option linter.unusedVariables false
set_option linter.unusedSimpArgs false
theorem wrap8 (n : Int) (h : -128 ≤ n ∧ n ≤ 127) : IntKind.i8.wrap n = n := IntWalk.i8_in n h
set_option maxHeartbeats 400000 in
theorem north_any (x y : Nat) (w : World) (hx : x < 8) (hy : y < 8) : Calls Tryd.prog 80 #[.agg (vrow 2 (spAt x y))] w fun e w' => e = .returned (.agg (vrow 2 (spAt (x) ((y : Int) - 1)))) ∧ Below w.heap.size w w' := by
  have zs := zero_spot
  have hB : Hid (Below w.heap.size w ((w.alloc (.cells (vrow 2 (spAt x y)) 61)).alloc (.cells (vrow 2 (spAt 0 0)) 61))) := (((Below.refl w.heap.size w).alloc (by simp <;> omega) _).alloc (by simp <;> omega) _)
  have R : Hid (((w.alloc (.cells (vrow 2 (spAt x y)) 61)).alloc (.cells (vrow 2 (spAt 0 0)) 61)).heap[(w.heap.size)]? = some (.cells (vrow 2 (spAt x y)) 61)) := heap_past _ _ _ _ (by first | omega | (simp <;> omega)) (heap_at _ _ _ (by simp))
  have Z : Hid (((w.alloc (.cells (vrow 2 (spAt x y)) 61)).alloc (.cells (vrow 2 (spAt 0 0)) 61)).heap[(w.heap.size + 1)]? = some (.cells (vrow 2 (spAt 0 0)) 61)) := heap_at _ _ _ (by simp)
  go_enter Tryd.func80, Tryd.ntmps80
  go_wp2_with (first
    | (refine wpList_load1 rfl 22 _ rfl (w.heap.size) _ rfl 2 (spAt x y) _ _ Tryd.underlying22 rfl R.out (by omega) ?_; (first | rw [spAt_0] | rw [spAt_1]))
    | (refine wpList_storeall rfl 61 (.tmp 2) (.tmp 8) rfl (w.heap.size + 1) rfl 2 (spAt 0 0) (spAt (x) ((y : Int) - 1)) rfl 61 size_spot Z.out (fun i _ => spAt_one _ _ i) ?_; replace Z := Go.Lib.hid (row_set Z.out (vrow 2 (spAt (x) ((y : Int) - 1)))); replace hB := Go.Lib.hid (Below_setRow hB.out (show w.heap.size ≤ w.heap.size + 1 by omega) (vrow 2 (spAt (x) ((y : Int) - 1))))))
  refine ret_row Tryd.results80 (w.heap.size + 1) 2 (spAt (x) ((y : Int) - 1)) 61 _ Tryd.underlying61 rfl size_spot rfl rfl Z.out ?_
  exact ⟨rfl, hB.out⟩
set_option maxHeartbeats 400000 in
theorem east_any (x y : Nat) (w : World) (hx : x < 8) (hy : y < 8) : Calls Tryd.prog 81 #[.agg (vrow 2 (spAt x y))] w fun e w' => e = .returned (.agg (vrow 2 (spAt ((x : Int) + 1) (y)))) ∧ Below w.heap.size w w' := by
  have zs := zero_spot
  have hB : Hid (Below w.heap.size w ((w.alloc (.cells (vrow 2 (spAt x y)) 61)).alloc (.cells (vrow 2 (spAt 0 0)) 61))) := (((Below.refl w.heap.size w).alloc (by simp <;> omega) _).alloc (by simp <;> omega) _)
  have R : Hid (((w.alloc (.cells (vrow 2 (spAt x y)) 61)).alloc (.cells (vrow 2 (spAt 0 0)) 61)).heap[(w.heap.size)]? = some (.cells (vrow 2 (spAt x y)) 61)) := heap_past _ _ _ _ (by first | omega | (simp <;> omega)) (heap_at _ _ _ (by simp))
  have Z : Hid (((w.alloc (.cells (vrow 2 (spAt x y)) 61)).alloc (.cells (vrow 2 (spAt 0 0)) 61)).heap[(w.heap.size + 1)]? = some (.cells (vrow 2 (spAt 0 0)) 61)) := heap_at _ _ _ (by simp)
  go_enter Tryd.func81, Tryd.ntmps81
  go_wp2_with (first
    | (refine wpList_load1 rfl 22 _ rfl (w.heap.size) _ rfl 2 (spAt x y) _ _ Tryd.underlying22 rfl R.out (by omega) ?_; (first | rw [spAt_0] | rw [spAt_1]))
    | (refine wpList_storeall rfl 61 (.tmp 2) (.tmp 8) rfl (w.heap.size + 1) rfl 2 (spAt 0 0) (spAt ((x : Int) + 1) (y)) rfl 61 size_spot Z.out (fun i _ => spAt_one _ _ i) ?_; replace Z := Go.Lib.hid (row_set Z.out (vrow 2 (spAt ((x : Int) + 1) (y)))); replace hB := Go.Lib.hid (Below_setRow hB.out (show w.heap.size ≤ w.heap.size + 1 by omega) (vrow 2 (spAt ((x : Int) + 1) (y))))))
  refine ret_row Tryd.results81 (w.heap.size + 1) 2 (spAt ((x : Int) + 1) (y)) 61 _ Tryd.underlying61 rfl size_spot rfl rfl Z.out ?_
  exact ⟨rfl, hB.out⟩
set_option maxHeartbeats 400000 in
theorem south_any (x y : Nat) (w : World) (hx : x < 8) (hy : y < 8) : Calls Tryd.prog 82 #[.agg (vrow 2 (spAt x y))] w fun e w' => e = .returned (.agg (vrow 2 (spAt (x) ((y : Int) + 1)))) ∧ Below w.heap.size w w' := by
  have zs := zero_spot
  have hB : Hid (Below w.heap.size w ((w.alloc (.cells (vrow 2 (spAt x y)) 61)).alloc (.cells (vrow 2 (spAt 0 0)) 61))) := (((Below.refl w.heap.size w).alloc (by simp <;> omega) _).alloc (by simp <;> omega) _)
  have R : Hid (((w.alloc (.cells (vrow 2 (spAt x y)) 61)).alloc (.cells (vrow 2 (spAt 0 0)) 61)).heap[(w.heap.size)]? = some (.cells (vrow 2 (spAt x y)) 61)) := heap_past _ _ _ _ (by first | omega | (simp <;> omega)) (heap_at _ _ _ (by simp))
  have Z : Hid (((w.alloc (.cells (vrow 2 (spAt x y)) 61)).alloc (.cells (vrow 2 (spAt 0 0)) 61)).heap[(w.heap.size + 1)]? = some (.cells (vrow 2 (spAt 0 0)) 61)) := heap_at _ _ _ (by simp)
  go_enter Tryd.func82, Tryd.ntmps82
  go_wp2_with (first
    | (refine wpList_load1 rfl 22 _ rfl (w.heap.size) _ rfl 2 (spAt x y) _ _ Tryd.underlying22 rfl R.out (by omega) ?_; (first | rw [spAt_0] | rw [spAt_1]))
    | (refine wpList_storeall rfl 61 (.tmp 2) (.tmp 8) rfl (w.heap.size + 1) rfl 2 (spAt 0 0) (spAt (x) ((y : Int) + 1)) rfl 61 size_spot Z.out (fun i _ => spAt_one _ _ i) ?_; replace Z := Go.Lib.hid (row_set Z.out (vrow 2 (spAt (x) ((y : Int) + 1)))); replace hB := Go.Lib.hid (Below_setRow hB.out (show w.heap.size ≤ w.heap.size + 1 by omega) (vrow 2 (spAt (x) ((y : Int) + 1))))))
  refine ret_row Tryd.results82 (w.heap.size + 1) 2 (spAt (x) ((y : Int) + 1)) 61 _ Tryd.underlying61 rfl size_spot rfl rfl Z.out ?_
  exact ⟨rfl, hB.out⟩
set_option maxHeartbeats 400000 in
theorem west_any (x y : Nat) (w : World) (hx : x < 8) (hy : y < 8) : Calls Tryd.prog 83 #[.agg (vrow 2 (spAt x y))] w fun e w' => e = .returned (.agg (vrow 2 (spAt ((x : Int) - 1) (y)))) ∧ Below w.heap.size w w' := by
  have zs := zero_spot
  have hB : Hid (Below w.heap.size w ((w.alloc (.cells (vrow 2 (spAt x y)) 61)).alloc (.cells (vrow 2 (spAt 0 0)) 61))) := (((Below.refl w.heap.size w).alloc (by simp <;> omega) _).alloc (by simp <;> omega) _)
  have R : Hid (((w.alloc (.cells (vrow 2 (spAt x y)) 61)).alloc (.cells (vrow 2 (spAt 0 0)) 61)).heap[(w.heap.size)]? = some (.cells (vrow 2 (spAt x y)) 61)) := heap_past _ _ _ _ (by first | omega | (simp <;> omega)) (heap_at _ _ _ (by simp))
  have Z : Hid (((w.alloc (.cells (vrow 2 (spAt x y)) 61)).alloc (.cells (vrow 2 (spAt 0 0)) 61)).heap[(w.heap.size + 1)]? = some (.cells (vrow 2 (spAt 0 0)) 61)) := heap_at _ _ _ (by simp)
  go_enter Tryd.func83, Tryd.ntmps83
  go_wp2_with (first
    | (refine wpList_load1 rfl 22 _ rfl (w.heap.size) _ rfl 2 (spAt x y) _ _ Tryd.underlying22 rfl R.out (by omega) ?_; (first | rw [spAt_0] | rw [spAt_1]))
    | (refine wpList_storeall rfl 61 (.tmp 2) (.tmp 8) rfl (w.heap.size + 1) rfl 2 (spAt 0 0) (spAt ((x : Int) - 1) (y)) rfl 61 size_spot Z.out (fun i _ => spAt_one _ _ i) ?_; replace Z := Go.Lib.hid (row_set Z.out (vrow 2 (spAt ((x : Int) - 1) (y)))); replace hB := Go.Lib.hid (Below_setRow hB.out (show w.heap.size ≤ w.heap.size + 1 by omega) (vrow 2 (spAt ((x : Int) - 1) (y))))))
  refine ret_row Tryd.results83 (w.heap.size + 1) 2 (spAt ((x : Int) - 1) (y)) 61 _ Tryd.underlying61 rfl size_spot rfl rfl Z.out ?_
  exact ⟨rfl, hB.out⟩
/-- the ways, by number -/
def sideId : Nat → Nat
  | 0 => 80
  | 1 => 81
  | 2 => 82
  | _ => 83
def sideF (k : Nat) : Value := .func (.func (sideId k)) #[] #[]
theorem side_any (x y k : Nat) (w : World) (hx : x < 8) (hy : y < 8) (hk : k < 4) : Calls Tryd.prog (sideId k) #[.agg (vrow 2 (spAt x y))] w fun e w' => e = .returned (.agg (vrow 2 (spAt (nextX x k) (nextY y k)))) ∧ Below w.heap.size w w' := by
  have : k = 0 ∨ k = 1 ∨ k = 2 ∨ k = 3 := by omega
  rcases this with rfl | rfl | rfl | rfl
  · exact north_any x y w hx hy
  · exact east_any x y w hx hy
  · exact south_any x y w hx hy
  · exact west_any x y w hx hy
theorem size_f4 : (Tryd.prog.info? 109).map (·.size) = some 4 := by kernel_rfl
theorem zero_f4 : ∀ w, (zeroValue 109).run Tryd.prog w = .ok (.agg (vrow 4 fun _ => .nilFunc)) w := fun _ => by kernel_rfl
theorem sides_any (w : World) : Calls Tryd.prog 77 #[] w fun e w' => e = .returned (.agg (vrow 4 sideF)) ∧ Below w.heap.size w w' := by
  have hB : Hid (Below w.heap.size w (w.alloc (.cells (vrow 4 fun _ => .nilFunc) 109))) := ((Below.refl w.heap.size w).alloc (by simp <;> omega) _)
  have Z : Hid ((w.alloc (.cells (vrow 4 fun _ => .nilFunc) 109)).heap[(w.heap.size)]? = some (.cells (vrow 4 fun _ => .nilFunc) 109)) := heap_at _ _ _ (by simp)
  have z4 := zero_f4
  go_enter Tryd.func77, Tryd.ntmps77
  go_wp2_with (first
    | (refine wpList_storeall rfl 109 (.tmp 0) (.tmp 1) rfl (w.heap.size) rfl 4 (fun _ => .nilFunc) sideF rfl 109 size_f4 Z.out (fun i _ => rfl) ?_; replace Z := Go.Lib.hid (row_set Z.out (vrow 4 sideF)); replace hB := Go.Lib.hid (Below_setRow hB.out (show w.heap.size ≤ w.heap.size by omega) (vrow 4 sideF))))
  refine ret_row Tryd.results77 (w.heap.size) 4 sideF 109 _ Tryd.underlying109 rfl size_f4 rfl rfl Z.out ?_
  exact ⟨rfl, hB.out⟩
theorem idx4 (k : Nat) (hk : k < 4) (w : World) : (Instr.index 109 (.agg (vrow 4 sideF)) (.int .i64 k)).run Tryd.prog w = .ok (.func (.func (sideId k)) #[] #[]) w := by
  have i0 : ∀ (a b c d : Value) (w : World), (Instr.index 109 (.agg #[a, b, c, d]) (.int .i64 0)).run Tryd.prog w = .ok a w := fun _ _ _ _ _ => by kernel_rfl
  have i1 : ∀ (a b c d : Value) (w : World), (Instr.index 109 (.agg #[a, b, c, d]) (.int .i64 1)).run Tryd.prog w = .ok b w := fun _ _ _ _ _ => by kernel_rfl
  have i2 : ∀ (a b c d : Value) (w : World), (Instr.index 109 (.agg #[a, b, c, d]) (.int .i64 2)).run Tryd.prog w = .ok c w := fun _ _ _ _ _ => by kernel_rfl
  have i3 : ∀ (a b c d : Value) (w : World), (Instr.index 109 (.agg #[a, b, c, d]) (.int .i64 3)).run Tryd.prog w = .ok d w := fun _ _ _ _ _ => by kernel_rfl
  have : k = 0 ∨ k = 1 ∨ k = 2 ∨ k = 3 := by omega
  rcases this with rfl | rfl | rfl | rfl
  · exact i0 _ _ _ _ w
  · exact i1 _ _ _ _ w
  · exact i2 _ _ _ _ w
  · exact i3 _ _ _ _ w
theorem World.heap_size_alloc_hid (w : World) (o : Obj) : Hid ((w.alloc o).heap.size = w.heap.size + 1) := by simp [Hid]
theorem side_in (k : Nat) (hk : k < 4) (a : Value) (w : World) : (callFunc (sideId k) #[a]).run Tryd.prog w = .ok (.enter (sideId k) #[a]) w := by
  have i0 : ∀ (a : Value) (w : World), (callFunc 80 #[a]).run Tryd.prog w = .ok (.enter 80 #[a]) w := fun _ _ => by kernel_rfl
  have i1 : ∀ (a : Value) (w : World), (callFunc 81 #[a]).run Tryd.prog w = .ok (.enter 81 #[a]) w := fun _ _ => by kernel_rfl
  have i2 : ∀ (a : Value) (w : World), (callFunc 82 #[a]).run Tryd.prog w = .ok (.enter 82 #[a]) w := fun _ _ => by kernel_rfl
  have i3 : ∀ (a : Value) (w : World), (callFunc 83 #[a]).run Tryd.prog w = .ok (.enter 83 #[a]) w := fun _ _ => by kernel_rfl
  have : k = 0 ∨ k = 1 ∨ k = 2 ∨ k = 3 := by omega
  rcases this with rfl | rfl | rfl | rfl
  · exact i0 a w
  · exact i1 a w
  · exact i2 a w
  · exact i3 a w
set_option maxHeartbeats 8000000 in
theorem nbr_nil (s : Sh) (x y : Nat) (w : World) (hx : x < 8) (hy : y < 8) (hok : okI s = true) : Calls Tryd.prog 63 #[.agg s.row, .slice none 0 0, .agg (vrow 2 (spAt x y))] w fun e w' => ∃ v, e = .returned v ∧ Owns w' (w.heap.size + 2) v (nbs s x y 4) ∧ Below w.heap.size w w' := by
  obtain ⟨i0, hi, hz0, hz1, hz2⟩ := info_parts info_spot
  have zs := zero_spot
  have HSD0 := Go.Lib.hid fun k w hk => side_any x y k w hx hy hk
  have HMk := Go.Lib.hid fun k h => mk_next (s := s) (x := x) (y := y) (k := k) hok h
  have HHS := Go.Lib.hid fun p q h => ok_has s hok p q h
  have HAS0 := fun p q w => has_any s p q w
  have HAS := Go.Lib.hid HAS0
  have WAX0 := fun u v hu hv w => waxed_any s u v hu hv w
  have WAX := Go.Lib.hid WAX0
  clear HAS0 WAX0 hok
  have hB : Hid (Below w.heap.size w ((w.alloc (.cells (vrow 266 s.at) 37)).alloc (.cells (vrow 2 (spAt x y)) 61))) := (((Below.refl w.heap.size w).alloc (by simp <;> omega) _).alloc (by simp <;> omega) _)
  have P : Hid (((w.alloc (.cells (vrow 266 s.at) 37)).alloc (.cells (vrow 2 (spAt x y)) 61)).heap[(w.heap.size)]? = some (.cells (vrow 266 s.at) 37)) := heap_past _ _ _ _ (by first | omega | (simp <;> omega)) (heap_at _ _ _ (by simp))
  have R : Hid (((w.alloc (.cells (vrow 266 s.at) 37)).alloc (.cells (vrow 2 (spAt x y)) 61)).heap[(w.heap.size + 1)]? = some (.cells (vrow 2 (spAt x y)) 61)) := heap_at _ _ _ (by simp)
  have O : Hid (((w.alloc (.cells (vrow 266 s.at) 37)).alloc (.cells (vrow 2 (spAt x y)) 61)).ownsRow (w.heap.size + 2) 61 2 (.slice none 0 0) 0 []) := Go.Lib.hid (World.ownsRow_nil _ _ _ _)
  have hsz : ((w.alloc (.cells (vrow 266 s.at) 37)).alloc (.cells (vrow 2 (spAt x y)) 61)).heap.size = w.heap.size + 2 := by simp
  obtain ⟨base, hbase⟩ : ∃ base, w.heap.size + 2 = base := ⟨_, rfl⟩
  rw [hbase] at O hsz ⊢
  go_enter Tryd.func63, Tryd.ntmps63
  go_wp2_with (first
    | (go_at_call 77; (refine (sides_any _).mono ?_; rintro e w1 ⟨rfl, hb⟩; have hGG := grown_next (grown_refl _ none) hb; replace O := Go.Lib.hid (O.out.kept hGG (by cases hv : Value.ownBlock _ <;> simp)); replace P := Go.Lib.hid (row_next hb P.out); replace R := Go.Lib.hid (row_next hb R.out); replace hB := Go.Lib.hid (below_next hB.out hb); have hs_w1 := hb.size; clear hb hGG)))
  obtain ⟨wo, hwo⟩ : ∃ wo : World, wo = w1 := ⟨_, rfl⟩
  rw [← hwo] at P R O hB hs_w1 ⊢
  clear hwo w1
  go_loopw [1, 11] (fun ov kv wr => ∃ k : Nat, k ≤ 4 ∧ kv = .int .i64 k ∧ wr.ownsRow base 61 2 ov ((nbs s x y k).length) (vals (nbs s x y k)) ∧ Below w.heap.size w wr ∧ base ≤ wr.heap.size ∧ wr.heap[w.heap.size]? = some (.cells (vrow 266 s.at) 37) ∧ wr.heap[w.heap.size + 1]? = some (.cells (vrow 2 (spAt x y)) 61)) (fun _ kv _ => 4 - (intOf kv).toNat)
  case atStart => exact ⟨0, by omega, rfl, by simpa [nbs, vals] using O.out, hB.out, by have hs := hs_w1; simp at hs; omega, P.out, R.out⟩
  case round =>
    clear P R O hB hsz hs_w1
    obtain ⟨k, hk, rfl, hO, hB, hbs, hP, hR⟩ := hrel
    have O := Go.Lib.hid hO; have P := Go.Lib.hid hP; have R := Go.Lib.hid hR
    replace hB := Go.Lib.hid hB
    clear hO hP hR
    have nbd := nbs_len s x y k
    have hvs : ∀ p q, (vrow 2 (spAt p q)).size = 2 := fun _ _ => vrow_size _ _
    by_cases hlt : k < 4
    · have hkd : decide ((k : Int) < 4) = true := by simp; omega
      have hmk := HMk.out k
      have HSD := Go.Lib.hid fun w => HSD0.out k w hlt
      have hix := fun w => idx4 k hlt w
      have hcf := fun a w => side_in k hlt a w
      have hst : nbs s x y (k + 1) = nbs s x y k ++ (if freeB s (nextX x k) (nextY y k) then [mk8 (nextX x k).toNat (nextY y k).toNat] else []) := rfl
      have HH0 := fun w => HAS.out (nextX x k) (nextY y k) w
      have hfr : freeB s (nextX x k) (nextY y k) = (hasB s (nextX x k) (nextY y k) && !waxB s (nextX x k).toNat (nextY y k).toNat) := rfl
      have HHS1 := HHS.out (nextX x k) (nextY y k)
      generalize nextX x k = p at *
      generalize nextY y k = q at *
      have HST := Go.Lib.hid hst
      clear hst
      cases hh : hasB s p q
      · have HH := Go.Lib.hid HH0
        rw [hh] at HH
        rw [hh, Bool.false_and] at hfr
        rw [hfr] at HST
        clear HH0 hmk hfr hh HHS1
        go_wp2_with (first
          | (refine wpList_loadall rfl 61 (.tmp 5) rfl _ rfl 2 (spAt x y) 61 _ Tryd.underlying61 rfl size_spot R.out ?_)
          | (refine wpList_loadall rfl 61 (.tmp 9) rfl _ rfl 2 (spAt p q) 61 _ Tryd.underlying61 rfl size_spot WA.out ?_)
          | (refine (HSD.out _).mono ?_; rintro e w1 ⟨rfl, hb⟩; have hGG := grown_next (grown_refl wr none) hb; replace O := Go.Lib.hid (O.out.kept hGG (by cases hv : Value.ownBlock _ <;> simp)); replace P := Go.Lib.hid (row_next hb P.out); replace R := Go.Lib.hid (row_next hb R.out); replace hB := Go.Lib.hid (below_next hB.out hb); have hs_w1 := hb.size; clear hb hGG)
          | (refine wpList_storeall rfl 61 (.tmp 9) (.tmp 16) rfl _ rfl 2 (spAt 0 0) (spAt p q) rfl 61 size_spot (heap_at _ _ _ rfl) (fun i _ => spAt_one _ _ i) ?_; rw [setRow_at _ _ _ _ _ rfl]; have WA := Go.Lib.hid (heap_at w1 (.cells (vrow 2 (spAt p q)) 61) _ rfl); have nP := row_lt P.out; have nR := row_lt R.out; replace P := Go.Lib.hid (heap_past _ (.cells (vrow 2 (spAt p q)) 61) _ _ nP P.out); replace R := Go.Lib.hid (heap_past _ (.cells (vrow 2 (spAt p q)) 61) _ _ nR R.out); replace O := Go.Lib.hid (O.out.alloc (.cells (vrow 2 (spAt p q)) 61)); replace hB := Go.Lib.hid (hB.out.alloc (hB.out.size) (.cells (vrow 2 (spAt p q)) 61)); generalize hbw : w1.heap.size = bw at WA nP nR hs_w1 ⊢; generalize hW1 : w1.alloc _ = W1 at R P O WA hB ⊢; have hsW : Hid (W1.heap.size = bw + 1) := (by rw [← hW1, ← hbw]; exact World.heap_size_alloc_hid _ _); clear hbw hW1)
          | (refine list_at 17 rfl ?_; intro W hW; rw [hW] at hB O P WA R hsW; clear hW; have P' := Go.Lib.hid (cls_row' P.out); have WA' := Go.Lib.hid (cls_row' WA.out); (repeat (first | go_big_quiet_skip | (refine wpQuiet_loadmid 37 _ rfl (by first | exact want_n rfl | exact want_g _ _ _ rfl rfl rfl) (w.heap.size) _ rfl 266 266 s.at _ rw_sheet size_sheet P'.out (by omega) ?_; rw [sh_row]; simp only [Act.put, List.setIfInBounds_toArray, List.set_cons_succ, List.set_cons_zero]) | (refine wpQuiet_loadmid 61 _ rfl (by first | exact want_n rfl | exact want_g _ _ _ rfl rfl rfl) bw _ rfl 2 2 (spAt p q) _ rw_spot size_spot WA'.out (by omega) ?_; rw [sp_row]; simp only [Act.put, List.setIfInBounds_toArray, List.set_cons_succ, List.set_cons_zero]) | go_big_quiet_step ((go_at_call 66; exact cls_call _ (fun w hw => HH.out w))))); refine wpQuiet_nil ?_; intro w3 hb; clear P' WA'; have hGG := grown_next (grown_refl W none) hb; replace O := Go.Lib.hid (O.out.kept hGG (by cases hv : Value.ownBlock _ <;> simp)); replace P := Go.Lib.hid (row_next hb P.out); replace R := Go.Lib.hid (row_next hb R.out); replace WA := Go.Lib.hid (row_next hb WA.out); replace hB := Go.Lib.hid (below_next hB.out hb); have hs_w3 := hb.size; clear hb hGG))
        go_roundw
        case rel => exact ⟨k + 1, by omega, by go_num, by rw [HST.out]; simpa using O.out, hB.out, by have h1 := hsW.out; have h2 := hs_w1; have h3 := hs_w3; omega, P.out, R.out⟩
        case measure => simp [intOf]; omega
      · have HH := Go.Lib.hid HH0
        rw [hh] at HH
        obtain ⟨u, v, rfl, rfl, hu8, hv8⟩ := HHS1 hh
        have HWX0 := fun w => WAX.out u v hu8 hv8 w
        rw [hh, Bool.true_and, Int.toNat_natCast, Int.toNat_natCast] at hfr
        clear HH0 hh HHS1
        cases hwx : waxB s u v
        · have HWX := Go.Lib.hid HWX0
          rw [hwx] at HWX hfr
          obtain ⟨hm1, hm2⟩ := hmk hfr
          rw [hfr] at HST
          clear hmk hfr HWX0 hwx
          go_wp2_with (first
          | (refine wpList_loadall rfl 61 (.tmp 5) rfl _ rfl 2 (spAt x y) 61 _ Tryd.underlying61 rfl size_spot R.out ?_)
          | (refine wpList_loadall rfl 61 (.tmp 9) rfl _ rfl 2 (spAt u v) 61 _ Tryd.underlying61 rfl size_spot WA.out ?_)
          | (refine (HSD.out _).mono ?_; rintro e w1 ⟨rfl, hb⟩; have hGG := grown_next (grown_refl wr none) hb; replace O := Go.Lib.hid (O.out.kept hGG (by cases hv : Value.ownBlock _ <;> simp)); replace P := Go.Lib.hid (row_next hb P.out); replace R := Go.Lib.hid (row_next hb R.out); replace hB := Go.Lib.hid (below_next hB.out hb); have hs_w1 := hb.size; clear hb hGG)
          | (refine wpList_storeall rfl 61 (.tmp 9) (.tmp 16) rfl _ rfl 2 (spAt 0 0) (spAt u v) rfl 61 size_spot (heap_at _ _ _ rfl) (fun i _ => spAt_one _ _ i) ?_; rw [setRow_at _ _ _ _ _ rfl]; have WA := Go.Lib.hid (heap_at w1 (.cells (vrow 2 (spAt u v)) 61) _ rfl); have nP := row_lt P.out; have nR := row_lt R.out; replace P := Go.Lib.hid (heap_past _ (.cells (vrow 2 (spAt u v)) 61) _ _ nP P.out); replace R := Go.Lib.hid (heap_past _ (.cells (vrow 2 (spAt u v)) 61) _ _ nR R.out); replace O := Go.Lib.hid (O.out.alloc (.cells (vrow 2 (spAt u v)) 61)); replace hB := Go.Lib.hid (hB.out.alloc (hB.out.size) (.cells (vrow 2 (spAt u v)) 61)); generalize hbw : w1.heap.size = bw at WA nP nR hs_w1 ⊢; generalize hW1 : w1.alloc _ = W1 at R P O WA hB ⊢; have hsW : Hid (W1.heap.size = bw + 1) := (by rw [← hW1, ← hbw]; exact World.heap_size_alloc_hid _ _); clear hbw hW1)
          | (refine list_at 17 rfl ?_; intro W hW; rw [hW] at hB O P WA R hsW; clear hW; have P' := Go.Lib.hid (cls_row' P.out); have WA' := Go.Lib.hid (cls_row' WA.out); (repeat (first | go_big_quiet_skip | (refine wpQuiet_loadmid 37 _ rfl (by first | exact want_n rfl | exact want_g _ _ _ rfl rfl rfl) (w.heap.size) _ rfl 266 266 s.at _ rw_sheet size_sheet P'.out (by omega) ?_; rw [sh_row]; simp only [Act.put, List.setIfInBounds_toArray, List.set_cons_succ, List.set_cons_zero]) | (refine wpQuiet_loadmid 61 _ rfl (by first | exact want_n rfl | exact want_g _ _ _ rfl rfl rfl) bw _ rfl 2 2 (spAt u v) _ rw_spot size_spot WA'.out (by omega) ?_; rw [sp_row]; simp only [Act.put, List.setIfInBounds_toArray, List.set_cons_succ, List.set_cons_zero]) | go_big_quiet_step (first | (go_at_call 66; exact cls_call _ (fun w hw => HH.out w)) | (go_at_call 62; exact cls_call _ (fun w hw => HWX.out w))))); refine wpQuiet_nil ?_; intro w3 hb; clear P' WA'; have hGG := grown_next (grown_refl W none) hb; replace O := Go.Lib.hid (O.out.kept hGG (by cases hv : Value.ownBlock _ <;> simp)); replace P := Go.Lib.hid (row_next hb P.out); replace R := Go.Lib.hid (row_next hb R.out); replace WA := Go.Lib.hid (row_next hb WA.out); replace hB := Go.Lib.hid (below_next hB.out hb); have hs_w3 := hb.size; clear hb hGG)
          | (at_builtin; refine wpList_append_own _ rfl (.tmp 26) (.tmp 28) 34 rfl base 61 i0 (.agg #[.int .i8 0, .int .i8 0]) 2 2 Tryd.underlying34 hi hz0 hz1 hz2 rfl (by decide) _ _ _ rfl (O.out.alloc _) ⟨w3.heap.size, 0, none⟩ 1 1 [.int .i8 u, .int .i8 v] rfl rfl (World.news_of_block (heap_at _ _ _ rfl)) (by simp [Value.oneCell']) (by simp only [maxLen]; omega) (by omega) (by have h1 := hsW.out; simp; omega) ?_; intro v' w4 hown' hgrow _))
          have B1 : Below w.heap.size w w4 := (hB.out.alloc hB.out.size _).grown hgrow (by have h1 := hsW.out; simp; omega) (fun q hq => by have := (O.out.lt q hq).1; omega)
          have R1 : w4.heap[w.heap.size + 1]? = some (.cells (vrow 2 (spAt x y)) 61) := (hgrow.block (w.heap.size + 1) (by have := row_lt R.out; simp; omega) (fun e => by have := (O.out.lt (w.heap.size + 1) e.symm).1; omega)).trans (heap_past _ _ _ _ (row_lt R.out) R.out)
          have P1 : w4.heap[w.heap.size]? = some (.cells (vrow 266 s.at) 37) := (hgrow.block w.heap.size (by have := row_lt P.out; simp; omega) (fun e => by have := (O.out.lt w.heap.size e.symm).1; omega)).trans (heap_past _ _ _ _ (row_lt P.out) P.out)
          have hval : vals (nbs s x y (k + 1)) = vals (nbs s x y k) ++ [.int .i8 u, .int .i8 v] := by rw [HST.out, if_pos (by simp), vals_app, vals_one, hm1, hm2]
          have hlen : (nbs s x y (k + 1)).length = (nbs s x y k).length + 1 := by rw [HST.out, if_pos (by simp), List.length_append]; rfl
          go_roundw
          case rel => exact ⟨k + 1, by omega, by go_num, by rw [hval, hlen]; exact hown', B1, by have h1 := hsW.out; have h4 := hgrow.size; simp at h4; omega, P1, R1⟩
          case measure => simp [intOf]; omega
        · have HWX := Go.Lib.hid HWX0
          rw [hwx] at HWX hfr
          rw [show freeB s u v = false from hfr] at HST
          clear hmk hfr HWX0 hwx
          go_wp2_with (first
          | (refine wpList_loadall rfl 61 (.tmp 5) rfl _ rfl 2 (spAt x y) 61 _ Tryd.underlying61 rfl size_spot R.out ?_)
          | (refine wpList_loadall rfl 61 (.tmp 9) rfl _ rfl 2 (spAt u v) 61 _ Tryd.underlying61 rfl size_spot WA.out ?_)
          | (refine (HSD.out _).mono ?_; rintro e w1 ⟨rfl, hb⟩; have hGG := grown_next (grown_refl wr none) hb; replace O := Go.Lib.hid (O.out.kept hGG (by cases hv : Value.ownBlock _ <;> simp)); replace P := Go.Lib.hid (row_next hb P.out); replace R := Go.Lib.hid (row_next hb R.out); replace hB := Go.Lib.hid (below_next hB.out hb); have hs_w1 := hb.size; clear hb hGG)
          | (refine wpList_storeall rfl 61 (.tmp 9) (.tmp 16) rfl _ rfl 2 (spAt 0 0) (spAt u v) rfl 61 size_spot (heap_at _ _ _ rfl) (fun i _ => spAt_one _ _ i) ?_; rw [setRow_at _ _ _ _ _ rfl]; have WA := Go.Lib.hid (heap_at w1 (.cells (vrow 2 (spAt u v)) 61) _ rfl); have nP := row_lt P.out; have nR := row_lt R.out; replace P := Go.Lib.hid (heap_past _ (.cells (vrow 2 (spAt u v)) 61) _ _ nP P.out); replace R := Go.Lib.hid (heap_past _ (.cells (vrow 2 (spAt u v)) 61) _ _ nR R.out); replace O := Go.Lib.hid (O.out.alloc (.cells (vrow 2 (spAt u v)) 61)); replace hB := Go.Lib.hid (hB.out.alloc (hB.out.size) (.cells (vrow 2 (spAt u v)) 61)); generalize hbw : w1.heap.size = bw at WA nP nR hs_w1 ⊢; generalize hW1 : w1.alloc _ = W1 at R P O WA hB ⊢; have hsW : Hid (W1.heap.size = bw + 1) := (by rw [← hW1, ← hbw]; exact World.heap_size_alloc_hid _ _); clear hbw hW1)
          | (refine list_at 17 rfl ?_; intro W hW; rw [hW] at hB O P WA R hsW; clear hW; have P' := Go.Lib.hid (cls_row' P.out); have WA' := Go.Lib.hid (cls_row' WA.out); (repeat (first | go_big_quiet_skip | (refine wpQuiet_loadmid 37 _ rfl (by first | exact want_n rfl | exact want_g _ _ _ rfl rfl rfl) (w.heap.size) _ rfl 266 266 s.at _ rw_sheet size_sheet P'.out (by omega) ?_; rw [sh_row]; simp only [Act.put, List.setIfInBounds_toArray, List.set_cons_succ, List.set_cons_zero]) | (refine wpQuiet_loadmid 61 _ rfl (by first | exact want_n rfl | exact want_g _ _ _ rfl rfl rfl) bw _ rfl 2 2 (spAt u v) _ rw_spot size_spot WA'.out (by omega) ?_; rw [sp_row]; simp only [Act.put, List.setIfInBounds_toArray, List.set_cons_succ, List.set_cons_zero]) | go_big_quiet_step (first | (go_at_call 66; exact cls_call _ (fun w hw => HH.out w)) | (go_at_call 62; exact cls_call _ (fun w hw => HWX.out w))))); refine wpQuiet_nil ?_; intro w3 hb; clear P' WA'; have hGG := grown_next (grown_refl W none) hb; replace O := Go.Lib.hid (O.out.kept hGG (by cases hv : Value.ownBlock _ <;> simp)); replace P := Go.Lib.hid (row_next hb P.out); replace R := Go.Lib.hid (row_next hb R.out); replace WA := Go.Lib.hid (row_next hb WA.out); replace hB := Go.Lib.hid (below_next hB.out hb); have hs_w3 := hb.size; clear hb hGG))
          go_roundw
          case rel => exact ⟨k + 1, by omega, by go_num, by rw [HST.out]; simpa using O.out, hB.out, by have h1 := hsW.out; have h2 := hs_w1; have h3 := hs_w3; omega, P.out, R.out⟩
          case measure => simp [intOf]; omega
    · obtain rfl : k = 4 := by omega
      have hkd : decide (((4 : Nat) : Int) < 4) = false := by simp
      go_wp2
      go_ret
      exact ⟨_, rfl, ⟨O.out⟩, hB.out⟩
set_option maxHeartbeats 8000000 in
theorem nbr_fits (s : Sh) (x y : Nat) (w : World) (hx : x < 8) (hy : y < 8) (hok : okI s = true) (base g cap n0 : Nat) (xs : List Value) (hO : w.ownsRow base 61 2 (.slice (some ⟨g, 0, none⟩) n0 cap) n0 xs) (hroom : n0 + 4 ≤ cap) : Calls Tryd.prog 63 #[.agg s.row, .slice (some ⟨g, 0, none⟩) n0 cap, .agg (vrow 2 (spAt x y))] w fun e w' => e = .returned (.slice (some ⟨g, 0, none⟩) (n0 + (nbs s x y 4).length) cap) ∧ w'.ownsRow base 61 2 (.slice (some ⟨g, 0, none⟩) (n0 + (nbs s x y 4).length) cap) (n0 + (nbs s x y 4).length) (xs ++ vals (nbs s x y 4)) ∧ w.grownBy w' (some g) := by
  obtain ⟨i0, hi, hz0, hz1, hz2⟩ := info_parts info_spot
  have zs := zero_spot
  have HSD0 := Go.Lib.hid fun k w hk => side_any x y k w hx hy hk
  have HMk := Go.Lib.hid fun k h => mk_next (s := s) (x := x) (y := y) (k := k) hok h
  have HHS := Go.Lib.hid fun p q h => ok_has s hok p q h
  have HAS0 := fun p q w => has_any s p q w
  have HAS := Go.Lib.hid HAS0
  have WAX0 := fun u v hu hv w => waxed_any s u v hu hv w
  have WAX := Go.Lib.hid WAX0
  clear HAS0 WAX0 hok
  have hG : Hid (w.grownBy ((w.alloc (.cells (vrow 266 s.at) 37)).alloc (.cells (vrow 2 (spAt x y)) 61)) (some g)) := grown_alloc (grown_alloc (grown_refl w _) _) _
  have P : Hid (((w.alloc (.cells (vrow 266 s.at) 37)).alloc (.cells (vrow 2 (spAt x y)) 61)).heap[(w.heap.size)]? = some (.cells (vrow 266 s.at) 37)) := heap_past _ _ _ _ (by first | omega | (simp <;> omega)) (heap_at _ _ _ (by simp))
  have R : Hid (((w.alloc (.cells (vrow 266 s.at) 37)).alloc (.cells (vrow 2 (spAt x y)) 61)).heap[(w.heap.size + 1)]? = some (.cells (vrow 2 (spAt x y)) 61)) := heap_at _ _ _ (by simp)
  have ngw : base ≤ g ∧ g < w.heap.size := hO.lt g rfl
  have O := Go.Lib.hid ((hO.alloc (.cells (vrow 266 s.at) 37)).alloc (.cells (vrow 2 (spAt x y)) 61))
  clear hO
  go_enter Tryd.func63, Tryd.ntmps63
  go_wp2_with (first
    | (go_at_call 77; (refine (sides_any _).mono ?_; rintro e w1 ⟨rfl, hb⟩; have hGG := grown_next (grown_refl _ none) hb; replace O := Go.Lib.hid (O.out.kept hGG (by cases hv : Value.ownBlock _ <;> simp)); replace P := Go.Lib.hid (row_next hb P.out); replace R := Go.Lib.hid (row_next hb R.out); replace hG := Go.Lib.hid (grown_next hG.out hb); have hs_w1 := hb.size; clear hb hGG)))
  obtain ⟨wo, hwo⟩ : ∃ wo : World, wo = w1 := ⟨_, rfl⟩
  rw [← hwo] at P R O hG hs_w1 ⊢
  clear hwo w1
  go_loopw [1, 11] (fun ov kv wr => ∃ k : Nat, k ≤ 4 ∧ kv = .int .i64 k ∧ ov = .slice (some ⟨g, 0, none⟩) (n0 + (nbs s x y k).length) cap ∧ wr.ownsRow base 61 2 ov (n0 + (nbs s x y k).length) (xs ++ vals (nbs s x y k)) ∧ w.grownBy wr (some g) ∧ wr.heap[w.heap.size]? = some (.cells (vrow 266 s.at) 37) ∧ wr.heap[w.heap.size + 1]? = some (.cells (vrow 2 (spAt x y)) 61)) (fun _ kv _ => 4 - (intOf kv).toNat)
  case atStart => exact ⟨0, by omega, rfl, rfl, by simpa [nbs, vals] using O.out, hG.out, P.out, R.out⟩
  case round =>
    clear P R O hG hs_w1
    obtain ⟨k, hk, rfl, rfl, hO, hG, hP, hR⟩ := hrel
    have O := Go.Lib.hid hO; have P := Go.Lib.hid hP; have R := Go.Lib.hid hR
    replace hG := Go.Lib.hid hG
    clear hO hP hR
    have nbd := nbs_len s x y k
    have hvs : ∀ p q, (vrow 2 (spAt p q)).size = 2 := fun _ _ => vrow_size _ _
    by_cases hlt : k < 4
    · have hkd : decide ((k : Int) < 4) = true := by simp; omega
      have hmk := HMk.out k
      have HSD := Go.Lib.hid fun w => HSD0.out k w hlt
      have hix := fun w => idx4 k hlt w
      have hcf := fun a w => side_in k hlt a w
      have hst : nbs s x y (k + 1) = nbs s x y k ++ (if freeB s (nextX x k) (nextY y k) then [mk8 (nextX x k).toNat (nextY y k).toNat] else []) := rfl
      have HH0 := fun w => HAS.out (nextX x k) (nextY y k) w
      have hfr : freeB s (nextX x k) (nextY y k) = (hasB s (nextX x k) (nextY y k) && !waxB s (nextX x k).toNat (nextY y k).toNat) := rfl
      have HHS1 := HHS.out (nextX x k) (nextY y k)
      generalize nextX x k = p at *
      generalize nextY y k = q at *
      have HST := Go.Lib.hid hst
      clear hst
      cases hh : hasB s p q
      · have HH := Go.Lib.hid HH0
        rw [hh] at HH
        rw [hh, Bool.false_and] at hfr
        rw [hfr] at HST
        clear HH0 hmk hfr hh HHS1
        go_wp2_with (first
          | (refine wpList_loadall rfl 61 (.tmp 5) rfl _ rfl 2 (spAt x y) 61 _ Tryd.underlying61 rfl size_spot R.out ?_)
          | (refine wpList_loadall rfl 61 (.tmp 9) rfl _ rfl 2 (spAt p q) 61 _ Tryd.underlying61 rfl size_spot WA.out ?_)
          | (refine (HSD.out _).mono ?_; rintro e w1 ⟨rfl, hb⟩; have hGG := grown_next (grown_refl wr none) hb; replace O := Go.Lib.hid (O.out.kept hGG (by cases hv : Value.ownBlock _ <;> simp)); replace P := Go.Lib.hid (row_next hb P.out); replace R := Go.Lib.hid (row_next hb R.out); replace hG := Go.Lib.hid (grown_next hG.out hb); have hs_w1 := hb.size; clear hb hGG)
          | (refine wpList_storeall rfl 61 (.tmp 9) (.tmp 16) rfl _ rfl 2 (spAt 0 0) (spAt p q) rfl 61 size_spot (heap_at _ _ _ rfl) (fun i _ => spAt_one _ _ i) ?_; rw [setRow_at _ _ _ _ _ rfl]; have WA := Go.Lib.hid (heap_at w1 (.cells (vrow 2 (spAt p q)) 61) _ rfl); have nP := row_lt P.out; have nR := row_lt R.out; replace P := Go.Lib.hid (heap_past _ (.cells (vrow 2 (spAt p q)) 61) _ _ nP P.out); replace R := Go.Lib.hid (heap_past _ (.cells (vrow 2 (spAt p q)) 61) _ _ nR R.out); replace O := Go.Lib.hid (O.out.alloc (.cells (vrow 2 (spAt p q)) 61)); replace hG := Go.Lib.hid (grown_alloc hG.out (.cells (vrow 2 (spAt p q)) 61)); generalize hbw : w1.heap.size = bw at WA nP nR hs_w1 ⊢; generalize hW1 : w1.alloc _ = W1 at R P O WA hG ⊢; have hsW : Hid (W1.heap.size = bw + 1) := (by rw [← hW1, ← hbw]; exact World.heap_size_alloc_hid _ _); clear hbw hW1)
          | (refine list_at 17 rfl ?_; intro W hW; rw [hW] at hG O P WA R hsW; clear hW; have P' := Go.Lib.hid (cls_row' P.out); have WA' := Go.Lib.hid (cls_row' WA.out); (repeat (first | go_big_quiet_skip | (refine wpQuiet_loadmid 37 _ rfl (by first | exact want_n rfl | exact want_g _ _ _ rfl rfl rfl) (w.heap.size) _ rfl 266 266 s.at _ rw_sheet size_sheet P'.out (by omega) ?_; rw [sh_row]; simp only [Act.put, List.setIfInBounds_toArray, List.set_cons_succ, List.set_cons_zero]) | (refine wpQuiet_loadmid 61 _ rfl (by first | exact want_n rfl | exact want_g _ _ _ rfl rfl rfl) bw _ rfl 2 2 (spAt p q) _ rw_spot size_spot WA'.out (by omega) ?_; rw [sp_row]; simp only [Act.put, List.setIfInBounds_toArray, List.set_cons_succ, List.set_cons_zero]) | go_big_quiet_step ((go_at_call 66; exact cls_call _ (fun w hw => HH.out w))))); refine wpQuiet_nil ?_; intro w3 hb; clear P' WA'; have hGG := grown_next (grown_refl W none) hb; replace O := Go.Lib.hid (O.out.kept hGG (by cases hv : Value.ownBlock _ <;> simp)); replace P := Go.Lib.hid (row_next hb P.out); replace R := Go.Lib.hid (row_next hb R.out); replace WA := Go.Lib.hid (row_next hb WA.out); replace hG := Go.Lib.hid (grown_next hG.out hb); have hs_w3 := hb.size; clear hb hGG))
        go_roundw
        case rel => exact ⟨k + 1, by omega, by go_num, by rw [HST.out]; simp, by rw [HST.out]; simpa using O.out, hG.out, P.out, R.out⟩
        case measure => simp [intOf]; omega
      · have HH := Go.Lib.hid HH0
        rw [hh] at HH
        obtain ⟨u, v, rfl, rfl, hu8, hv8⟩ := HHS1 hh
        have HWX0 := fun w => WAX.out u v hu8 hv8 w
        rw [hh, Bool.true_and, Int.toNat_natCast, Int.toNat_natCast] at hfr
        clear HH0 hh HHS1
        cases hwx : waxB s u v
        · have HWX := Go.Lib.hid HWX0
          rw [hwx] at HWX hfr
          obtain ⟨hm1, hm2⟩ := hmk hfr
          rw [hfr] at HST
          clear hmk hfr HWX0 hwx
          go_wp2_with (first
          | (refine wpList_loadall rfl 61 (.tmp 5) rfl _ rfl 2 (spAt x y) 61 _ Tryd.underlying61 rfl size_spot R.out ?_)
          | (refine wpList_loadall rfl 61 (.tmp 9) rfl _ rfl 2 (spAt u v) 61 _ Tryd.underlying61 rfl size_spot WA.out ?_)
          | (refine (HSD.out _).mono ?_; rintro e w1 ⟨rfl, hb⟩; have hGG := grown_next (grown_refl wr none) hb; replace O := Go.Lib.hid (O.out.kept hGG (by cases hv : Value.ownBlock _ <;> simp)); replace P := Go.Lib.hid (row_next hb P.out); replace R := Go.Lib.hid (row_next hb R.out); replace hG := Go.Lib.hid (grown_next hG.out hb); have hs_w1 := hb.size; clear hb hGG)
          | (refine wpList_storeall rfl 61 (.tmp 9) (.tmp 16) rfl _ rfl 2 (spAt 0 0) (spAt u v) rfl 61 size_spot (heap_at _ _ _ rfl) (fun i _ => spAt_one _ _ i) ?_; rw [setRow_at _ _ _ _ _ rfl]; have WA := Go.Lib.hid (heap_at w1 (.cells (vrow 2 (spAt u v)) 61) _ rfl); have nP := row_lt P.out; have nR := row_lt R.out; replace P := Go.Lib.hid (heap_past _ (.cells (vrow 2 (spAt u v)) 61) _ _ nP P.out); replace R := Go.Lib.hid (heap_past _ (.cells (vrow 2 (spAt u v)) 61) _ _ nR R.out); replace O := Go.Lib.hid (O.out.alloc (.cells (vrow 2 (spAt u v)) 61)); replace hG := Go.Lib.hid (grown_alloc hG.out (.cells (vrow 2 (spAt u v)) 61)); generalize hbw : w1.heap.size = bw at WA nP nR hs_w1 ⊢; generalize hW1 : w1.alloc _ = W1 at R P O WA hG ⊢; have hsW : Hid (W1.heap.size = bw + 1) := (by rw [← hW1, ← hbw]; exact World.heap_size_alloc_hid _ _); clear hbw hW1)
          | (refine list_at 17 rfl ?_; intro W hW; rw [hW] at hG O P WA R hsW; clear hW; have P' := Go.Lib.hid (cls_row' P.out); have WA' := Go.Lib.hid (cls_row' WA.out); (repeat (first | go_big_quiet_skip | (refine wpQuiet_loadmid 37 _ rfl (by first | exact want_n rfl | exact want_g _ _ _ rfl rfl rfl) (w.heap.size) _ rfl 266 266 s.at _ rw_sheet size_sheet P'.out (by omega) ?_; rw [sh_row]; simp only [Act.put, List.setIfInBounds_toArray, List.set_cons_succ, List.set_cons_zero]) | (refine wpQuiet_loadmid 61 _ rfl (by first | exact want_n rfl | exact want_g _ _ _ rfl rfl rfl) bw _ rfl 2 2 (spAt u v) _ rw_spot size_spot WA'.out (by omega) ?_; rw [sp_row]; simp only [Act.put, List.setIfInBounds_toArray, List.set_cons_succ, List.set_cons_zero]) | go_big_quiet_step (first | (go_at_call 66; exact cls_call _ (fun w hw => HH.out w)) | (go_at_call 62; exact cls_call _ (fun w hw => HWX.out w))))); refine wpQuiet_nil ?_; intro w3 hb; clear P' WA'; have hGG := grown_next (grown_refl W none) hb; replace O := Go.Lib.hid (O.out.kept hGG (by cases hv : Value.ownBlock _ <;> simp)); replace P := Go.Lib.hid (row_next hb P.out); replace R := Go.Lib.hid (row_next hb R.out); replace WA := Go.Lib.hid (row_next hb WA.out); replace hG := Go.Lib.hid (grown_next hG.out hb); have hs_w3 := hb.size; clear hb hGG)
          | (at_builtin; refine wpList_append_fits _ rfl (.tmp 26) (.tmp 28) 34 rfl base 61 i0 2 Tryd.underlying34 hi hz1 g _ cap _ rfl (O.out.alloc _) ⟨w3.heap.size, 0, none⟩ 1 1 [.int .i8 u, .int .i8 v] rfl rfl (World.news_of_block (heap_at _ _ _ rfl)) (by simp [Value.oneCell']) (by omega) ?_; intro w4 hown' hgrow))
          have G0 := grown_alloc hG.out (.cells #[.int .i8 u, .int .i8 v] 61)
          have G1 : w.grownBy w4 (some g) := ⟨hgrow.os.trans G0.os, hgrow.tape.trans G0.tape, hgrow.output.trans G0.output, Nat.le_trans G0.size hgrow.size, fun k hk hne => (hgrow.block k (Nat.lt_of_lt_of_le hk G0.size) hne).trans (G0.block k hk hne)⟩
          have R1 : w4.heap[w.heap.size + 1]? = some (.cells (vrow 2 (spAt x y)) 61) := (hgrow.block (w.heap.size + 1) (by have := row_lt R.out; simp; omega) (by simp; omega)).trans (heap_past _ _ _ _ (row_lt R.out) R.out)
          have P1 : w4.heap[w.heap.size]? = some (.cells (vrow 266 s.at) 37) := (hgrow.block w.heap.size (by have := row_lt P.out; simp; omega) (by simp; omega)).trans (heap_past _ _ _ _ (row_lt P.out) P.out)
          have hval : vals (nbs s x y (k + 1)) = vals (nbs s x y k) ++ [.int .i8 u, .int .i8 v] := by rw [HST.out, if_pos (by simp), vals_app, vals_one, hm1, hm2]
          have hlen : (nbs s x y (k + 1)).length = (nbs s x y k).length + 1 := by rw [HST.out, if_pos (by simp), List.length_append]; rfl
          go_roundw
          case rel => exact ⟨k + 1, by omega, by go_num, by rw [hlen, Nat.add_assoc], by rw [hval, hlen, ← List.append_assoc]; exact hown', G1, P1, R1⟩
          case measure => simp [intOf]; omega
        · have HWX := Go.Lib.hid HWX0
          rw [hwx] at HWX hfr
          rw [show freeB s u v = false from hfr] at HST
          clear hmk hfr HWX0 hwx
          go_wp2_with (first
          | (refine wpList_loadall rfl 61 (.tmp 5) rfl _ rfl 2 (spAt x y) 61 _ Tryd.underlying61 rfl size_spot R.out ?_)
          | (refine wpList_loadall rfl 61 (.tmp 9) rfl _ rfl 2 (spAt u v) 61 _ Tryd.underlying61 rfl size_spot WA.out ?_)
          | (refine (HSD.out _).mono ?_; rintro e w1 ⟨rfl, hb⟩; have hGG := grown_next (grown_refl wr none) hb; replace O := Go.Lib.hid (O.out.kept hGG (by cases hv : Value.ownBlock _ <;> simp)); replace P := Go.Lib.hid (row_next hb P.out); replace R := Go.Lib.hid (row_next hb R.out); replace hG := Go.Lib.hid (grown_next hG.out hb); have hs_w1 := hb.size; clear hb hGG)
          | (refine wpList_storeall rfl 61 (.tmp 9) (.tmp 16) rfl _ rfl 2 (spAt 0 0) (spAt u v) rfl 61 size_spot (heap_at _ _ _ rfl) (fun i _ => spAt_one _ _ i) ?_; rw [setRow_at _ _ _ _ _ rfl]; have WA := Go.Lib.hid (heap_at w1 (.cells (vrow 2 (spAt u v)) 61) _ rfl); have nP := row_lt P.out; have nR := row_lt R.out; replace P := Go.Lib.hid (heap_past _ (.cells (vrow 2 (spAt u v)) 61) _ _ nP P.out); replace R := Go.Lib.hid (heap_past _ (.cells (vrow 2 (spAt u v)) 61) _ _ nR R.out); replace O := Go.Lib.hid (O.out.alloc (.cells (vrow 2 (spAt u v)) 61)); replace hG := Go.Lib.hid (grown_alloc hG.out (.cells (vrow 2 (spAt u v)) 61)); generalize hbw : w1.heap.size = bw at WA nP nR hs_w1 ⊢; generalize hW1 : w1.alloc _ = W1 at R P O WA hG ⊢; have hsW : Hid (W1.heap.size = bw + 1) := (by rw [← hW1, ← hbw]; exact World.heap_size_alloc_hid _ _); clear hbw hW1)
          | (refine list_at 17 rfl ?_; intro W hW; rw [hW] at hG O P WA R hsW; clear hW; have P' := Go.Lib.hid (cls_row' P.out); have WA' := Go.Lib.hid (cls_row' WA.out); (repeat (first | go_big_quiet_skip | (refine wpQuiet_loadmid 37 _ rfl (by first | exact want_n rfl | exact want_g _ _ _ rfl rfl rfl) (w.heap.size) _ rfl 266 266 s.at _ rw_sheet size_sheet P'.out (by omega) ?_; rw [sh_row]; simp only [Act.put, List.setIfInBounds_toArray, List.set_cons_succ, List.set_cons_zero]) | (refine wpQuiet_loadmid 61 _ rfl (by first | exact want_n rfl | exact want_g _ _ _ rfl rfl rfl) bw _ rfl 2 2 (spAt u v) _ rw_spot size_spot WA'.out (by omega) ?_; rw [sp_row]; simp only [Act.put, List.setIfInBounds_toArray, List.set_cons_succ, List.set_cons_zero]) | go_big_quiet_step (first | (go_at_call 66; exact cls_call _ (fun w hw => HH.out w)) | (go_at_call 62; exact cls_call _ (fun w hw => HWX.out w))))); refine wpQuiet_nil ?_; intro w3 hb; clear P' WA'; have hGG := grown_next (grown_refl W none) hb; replace O := Go.Lib.hid (O.out.kept hGG (by cases hv : Value.ownBlock _ <;> simp)); replace P := Go.Lib.hid (row_next hb P.out); replace R := Go.Lib.hid (row_next hb R.out); replace WA := Go.Lib.hid (row_next hb WA.out); replace hG := Go.Lib.hid (grown_next hG.out hb); have hs_w3 := hb.size; clear hb hGG))
          go_roundw
          case rel => exact ⟨k + 1, by omega, by go_num, by rw [HST.out]; simp, by rw [HST.out]; simpa using O.out, hG.out, P.out, R.out⟩
          case measure => simp [intOf]; omega
    · obtain rfl : k = 4 := by omega
      have hkd : decide (((4 : Nat) : Int) < 4) = false := by simp
      go_wp2
      go_ret
      exact ⟨rfl, O.out, hG.out⟩
end Go.Proofs.YthienbbecbakjaaDoor
namespace Go.Proofs.YthienbbecbakjaaDoor
open Go.RowKit
set_option maxRecDepth 100000
set_option linter.unusedVariables false
set_option linter.unusedSimpArgs false
open Go.RowKit
theorem info_place : (Tryd.prog.info? 91).map (fun i => (i.zero, i.size, i.bytes)) = some (some (.agg #[.int .i8 0, .int .i8 0, .slice none 0 0]), 3, 32) := by kernel_rfl
/-- the neighbours of all cells of a list, one list behind the other -/
def nbAll (s : Sh) (l : List Sp8) : List Sp8 := l.flatMap fun p => nbs s p.1.1 p.1.2 4
theorem nbAll_app (s : Sh) (l : List Sp8) (p : Sp8) : nbAll s (l ++ [p]) = nbAll s l ++ nbs s p.1.1 p.1.2 4 := by simp [nbAll]
theorem nbAll_len (s : Sh) : ∀ l : List Sp8, (nbAll s l).length ≤ 4 * l.length
  | [] => by simp [nbAll]
  | p :: l => by
    have := nbAll_len s l
    have h2 := nbs_len s p.1.1 p.1.2 4
    simp only [nbAll, List.flatMap_cons, List.length_append, List.length_cons] at this ⊢
    omega
/-- a part of the list of neighbours -/
def besV (gl m n : Nat) : Value := .slice (if n = m then some ⟨gl, 0, none⟩ else some ⟨gl, m * 2, none⟩) (n - m) (n - m)
/-- the cells of the places -/
def pvals (s : Sh) (gl : Nat) : Nat → List Sp8 → List Value
  | _, [] => []
  | m, p :: l => [.int .i8 p.1.1, .int .i8 p.1.2, besV gl m (m + (nbs s p.1.1 p.1.2 4).length)] ++ pvals s gl (m + (nbs s p.1.1 p.1.2 4).length) l
theorem pvals_app (s : Sh) (gl : Nat) (p : Sp8) : ∀ (l : List Sp8) (m : Nat), pvals s gl m (l ++ [p]) = pvals s gl m l ++ [.int .i8 p.1.1, .int .i8 p.1.2, besV gl (m + (nbAll s l).length) (m + (nbAll s l).length + (nbs s p.1.1 p.1.2 4).length)]
  | [], m => by simp [pvals, nbAll]
  | q :: l, m => by
    show [_, _, _] ++ pvals s gl _ (l ++ [p]) = _
    rw [pvals_app s gl p l]
    have : m + (nbs s q.1.1 q.1.2 4).length + (nbAll s l).length = m + (nbAll s (q :: l)).length := by simp [nbAll]; omega
    rw [this]
    rfl
theorem pvals_len (s : Sh) (gl : Nat) : ∀ (l : List Sp8) (m : Nat), (pvals s gl m l).length = l.length * 3
  | [], _ => rfl
  | p :: l, m => by
    show (_ :: _ :: _ :: pvals s gl _ l).length = _
    simp only [List.length_cons, pvals_len s gl l]; omega
/-- the ground of the cells l: the list of all neighbours in the block gl, the places in the block gp -/
structure GroundM (W : World) (base gp gl : Nat) (s : Sh) (l : List Sp8) : Prop where
  list : W.ownsRow base 61 2 (.slice (some ⟨gl, 0, none⟩) (nbAll s l).length 256) (nbAll s l).length (vals (nbAll s l))
  places : W.ownsRow base 91 3 (.slice (some ⟨gp, 0, none⟩) l.length 64) l.length (pvals s gl 0 l)
/-- the cells that are not waxed, of some -/
def dryL (s : Sh) (l : List Sp8) : List Sp8 := l.filter fun p => !waxB s p.1.1 p.1.2
theorem dryL_app (s : Sh) (l : List Sp8) (p : Sp8) : dryL s (l ++ [p]) = dryL s l ++ (if waxB s p.1.1 p.1.2 then [] else [p]) := by
  unfold dryL
  rw [List.filter_append]
  cases h : waxB s p.1.1 p.1.2 <;> simp [h]
theorem dryL_len (s : Sh) (l : List Sp8) : (dryL s l).length ≤ l.length := List.length_filter_le _ _
theorem own_ownsRow {β : Type} {B base size : Nat} {t : TypeId} (v : β → Value) (n : β → Nat) (xs : β → List Value) : OwnFrom B (fun (s : β) W => W.ownsRow base t size (v s) (n s) (xs s)) := fun s W W' row hs hg hr => by
  refine hs.kept hg ?_
  rcases hs.2 with ⟨hv, _⟩ | ⟨g, cap, cur, hv, _, hgb, _⟩
  · exact .inl (by rw [hv]; rfl)
  · refine .inr fun e => ?_
    rw [hv] at e
    obtain ⟨_, o, ho, hc⟩ := hr g e.symm
    rw [hgb] at ho
    cases ho
    simp [Obj.isCells] at hc
def toSp {a c : Nat} (p : SpN a c) : Sp8 := mk8 p.1.1 p.1.2
theorem toSp_val {a c : Nat} (ha : a ≤ 8) (hc : c ≤ 8) (p : SpN a c) : (toSp p).1 = p.1 := mk8_x (by have := p.2.1; omega) (by have := p.2.2; omega)
theorem toSp_cells (a c : Nat) (ha : a ≤ 8) : ∀ k h, k ≤ 8 → (cellsN a c k h).map toSp = cellsL a k := fun k h hk => by
  have e1 : ((cellsN a c k h).map toSp) = ((cellsN a c k h).map (·.1)).map fun q => mk8 q.1 q.2 := by rw [List.map_map]; rfl
  have e2 : cellsL a k = ((cellsL a k).map (·.1)).map fun q => mk8 q.1 q.2 := by
    rw [List.map_map]
    conv => lhs; rw [← List.map_id (cellsL a k)]
    exact List.map_congr_left fun p _ => Subtype.ext (mk8_x p.2.1 p.2.2).symm
  rw [e1, cellsN_val, e2, cellsL_val a k ha k hk]
end Go.Proofs.YthienbbecbakjaaDoor
