import Derived.Test.YtfhfiaphdgfmnaaSheet
import Derived.ChangeKeysEq
namespace Go.Proofs.Ytfhfiaphdgfmnaa
open Go.RowKit
set_option maxRecDepth 100000
/-- A world that is W below n. -/
def Ex (n : Nat) (W : World) := { u : World // Below n W u }
instance (n : Nat) (W : World) : Nonempty (Ex n W) := ⟨⟨W, Below.refl _ _⟩⟩
/-- The class of a region that only reads and calls. -/
abbrev Cls (n : Nat) (W : World) : World → Prop := fun w' => ∃ u : Ex n W, w' = u.1
theorem cls_drew (n : Nat) (W : World) : Cls n W { W with drawn := W.drawn + 1 } := ⟨⟨W.drew, (Below.refl n W).drew⟩, rfl⟩
theorem cls_row {n : Nat} {W : World} {b : Nat} {o : Obj} (hb : b < n) (h : W.heap[b]? = some o) : ∀ w', Cls n W w' → w'.heap[b]? = some o := by
  rintro w' ⟨u, rfl⟩; exact row_below u.2 hb h
theorem want_n {o : Oper} {ops : Array Oper} {a : Act} (h : o.guard = none) : Region.wanted o (yielded ops a.tmps) = true := by simp [Region.wanted, h]
theorem want_g {o : Oper} {ops : Array Oper} {a : Act} (g : Nat) (b : Bool) (d : Tmp) (h : o.guard = some (g, b)) (hd : (ops[g]?).bind (·.dst) = some d) (hv : a.tmps[d]? = some (.bool b)) : Region.wanted o (yielded ops a.tmps) = true := by
  simp [Region.wanted, h, yielded, hd, hv]
section
variable {P : Program} {ops : Array Oper} {C : World → Prop} {Q : Act → Prop} {a : Act} {o : Oper} {rest : List Oper}
theorem wpQuiet_want' (hw : Region.wanted o (yielded ops a.tmps) = true) (h : ∀ K : Act → Prop, (∀ a, wpQuiet P ops C Q rest a → K a) → o.quiet P a C K) : wpQuiet P ops C Q (o :: rest) a :=
  wpQuiet_step fun K hK => by rw [if_pos hw]; exact h K hK
/-- IN A QUIET REGION: a load of one cell. -/
theorem wpQuiet_load1 (ty : TypeId) (x : Operand) (ho : o.op = .load ty x) (hw : Region.wanted o (yielded ops a.tmps) = true)
    (b off : Nat) (hx : a.eval x = .pointer (some ⟨b, off, none⟩)) (n : Nat) (f : Nat → Value) (t : TypeId) (hu : (P.underlying ty).map (·.isRow) = some false)
    (hg : ∀ w, C w → w.heap[b]? = some (.cells (vrow n f) t)) (hb : off < n)
    (h : wpQuiet P ops C Q rest (a.put o.dst (f off))) : wpQuiet P ops C Q (o :: rest) a := by
  refine wpQuiet_want' hw fun K hK => ⟨f off, fun w hC => ?_, hK _ h⟩
  obtain ⟨d, hu', hd⟩ := Option.map_eq_some_iff.1 hu
  have hc := cell_row (hg w hC) hb
  have hr : (Instr.loadAt ty (.pointer (some ⟨b, off, none⟩))).run P w = .ok (f off) w := by
    simp only [Instr.loadAt, Instr.sureAddr, Sem.run_bind, Sem.run_pure, Result.andThen_ok, loadVar, run_isAgg_row w ty d hu', hd, Bool.false_eq_true, if_false, run_load, hc]
  unfold Oper.quietAt
  simp only [execOp, ho, hx, Sem.run_bind, hr, Result.andThen_ok, Sem.run_pure, Oper.quietUpon]
  exact ⟨trivial, trivial⟩
/-- IN A QUIET REGION: a load of m cells. -/
theorem wpQuiet_loadmid (ty : TypeId) (x : Operand) (ho : o.op = .load ty x) (hw : Region.wanted o (yielded ops a.tmps) = true)
    (b off : Nat) (hx : a.eval x = .pointer (some ⟨b, off, none⟩)) (n m : Nat) (f : Nat → Value) (t : TypeId) (hu : (P.underlying ty).map (·.isRow) = some true) (hi : (P.info? ty).map (·.size) = some m)
    (hg : ∀ w, C w → w.heap[b]? = some (.cells (vrow n f) t)) (hb : off + m ≤ n)
    (h : wpQuiet P ops C Q rest (a.put o.dst (.agg (vrow m fun i => f (off + i))))) : wpQuiet P ops C Q (o :: rest) a := by
  refine wpQuiet_want' hw fun K hK => ⟨.agg (vrow m fun i => f (off + i)), fun w hC => ?_, hK _ h⟩
  obtain ⟨d, hu', hd⟩ := Option.map_eq_some_iff.1 hu
  have hr := run_loadAt_mid (P := P) w b off ty ((List.range m).map fun i => f (off + i)) d (fun j v hj => by
    have hjm : j < m := by
      by_cases c : j < m
      · exact c
      · rw [List.getElem?_eq_none (by simp; omega)] at hj; cases hj
    rw [cell_row (hg w hC) (by omega)]
    simp [hjm] at hj; rw [hj]) hu' hd (by simpa using hi)
  unfold Oper.quietAt
  simp only [execOp, ho, hx, Sem.run_bind, hr, Result.andThen_ok, Sem.run_pure, Oper.quietUpon]
  exact ⟨trivial, rfl⟩
end
section
variable {P : Program} {ops : Array Oper} {rest : List Oper} {o : Oper} {a : Act} {w : World} {Q : Exit → Act → World → Prop}
theorem wpList_want' (hw : Region.wanted o (yielded ops a.tmps) = true) (h : ∀ K : Act → World → Prop, (∀ a w, wpList P ops Q rest a w → K a w) → o.wp P a w K Q) : wpList P ops Q (o :: rest) a w :=
  wpList_step fun K hK => by rw [if_pos hw]; exact h K hK
/-- LOAD of one cell, guarded or not. -/
theorem wpList_ld1 (ty : TypeId) (x : Operand) (ho : o.op = .load ty x) (hw : Region.wanted o (yielded ops a.tmps) = true)
    (b off : Nat) (hx : a.eval x = .pointer (some ⟨b, off, none⟩)) (n : Nat) (f : Nat → Value) (t : TypeId) (hu : (P.underlying ty).map (·.isRow) = some false)
    (hg : w.heap[b]? = some (.cells (vrow n f) t)) (hb : off < n)
    (h : wpList P ops Q rest (a.put o.dst (f off)) w) : wpList P ops Q (o :: rest) a w := by
  refine wpList_want' hw fun K hK => ?_
  obtain ⟨d, hu', hd⟩ := Option.map_eq_some_iff.1 hu
  have hc := cell_row hg hb
  unfold Oper.wp execOp
  simp only [ho, hx, Instr.loadAt, Instr.sureAddr, Sem.run_bind, Sem.run_pure, Result.andThen_ok, loadVar, run_isAgg_row w ty d hu', hd, Bool.false_eq_true, if_false, run_load, hc]
  exact hK _ _ h
/-- LOAD of m cells, guarded or not. -/
theorem wpList_ldm (ty : TypeId) (x : Operand) (ho : o.op = .load ty x) (hw : Region.wanted o (yielded ops a.tmps) = true)
    (b off : Nat) (hx : a.eval x = .pointer (some ⟨b, off, none⟩)) (n m : Nat) (f : Nat → Value) (t : TypeId) (hu : (P.underlying ty).map (·.isRow) = some true) (hi : (P.info? ty).map (·.size) = some m)
    (hg : w.heap[b]? = some (.cells (vrow n f) t)) (hb : off + m ≤ n)
    (h : wpList P ops Q rest (a.put o.dst (.agg (vrow m fun i => f (off + i)))) w) : wpList P ops Q (o :: rest) a w := by
  refine wpList_want' hw fun K hK => ?_
  obtain ⟨d, hu', hd⟩ := Option.map_eq_some_iff.1 hu
  have hr := run_loadAt_mid (P := P) w b off ty ((List.range m).map fun i => f (off + i)) d (fun j v hj => by
    have hjm : j < m := by
      by_cases c : j < m
      · exact c
      · rw [List.getElem?_eq_none (by simp; omega)] at hj; cases hj
    rw [cell_row hg (by omega)]
    simp [hjm] at hj; rw [hj]) hu' hd (by simpa using hi)
  unfold Oper.wp execOp
  simp only [ho, hx, Sem.run_bind, hr, Result.andThen_ok, Sem.run_pure]
  exact hK _ _ h
end
/-- A REGION THAT DRAWS ITS ORDER, AND ONLY READS AND CALLS: walked once, in the text's order. -/
theorem region_cls {P : Program} {id : Nat} {Q : Exit → Act → World → Prop} {a : Act} {w : World} {l : List Oper} (n : Nat) (hm : P.follows .mixedOrders = true) (hB : Region.lexB .any l.toArray = true)
    (h : wpQuiet P l.toArray (Cls n w) (fun a' => ∀ w', Below n w w' → Q .normal a' w') l a) : (Code.region id l.toArray true).wp P Q a w := by
  refine wp_region_quiet (C := Cls n w) hm hB (cls_drew _ _) ?_
  have e : (fun a' => ∀ w', Below n w w' → Q .normal a' w') = (fun a' => ∀ w', Cls n w w' → Q .normal a' w') := by
    funext a'
    exact propext ⟨fun h w' ⟨u, hu⟩ => by rw [hu]; exact h _ u.2, fun h w' hw => h w' ⟨⟨w', hw⟩, rfl⟩⟩
  rw [e] at h
  simpa using h
/-- A PLAIN REGION's REST, WHERE IT ONLY READS AND CALLS. -/
theorem wpList_of_quiet {P : Program} {ops : Array Oper} {Q : Exit → Act → World → Prop} {C : World → Prop} : ∀ (l : List Oper) (a : Act) (w : World), C w → wpQuiet P ops C (fun a' => ∀ w', C w' → Q .normal a' w') l a → wpList P ops Q l a w
  | [], _, w, hw, h => h w hw
  | o :: rest, a, w, hw, h => by
    unfold wpQuiet at h
    refine wpList_step fun K hK => ?_
    split
    · rename_i hg
      rw [if_pos hg] at h
      exact Oper.wp_of_quiet hw (fun a' w' hw' h' => hK a' w' (wpList_of_quiet rest a' w' hw' h')) h
    · rename_i hg
      rw [if_neg hg] at h
      exact hK _ _ (wpList_of_quiet rest _ w hw h)
theorem list_cls {P : Program} {ops : Array Oper} {Q : Exit → Act → World → Prop} {l : List Oper} {a : Act} {w : World}
    (h : wpQuiet P ops (Cls w.heap.size w) (fun a' => ∀ w', Below w.heap.size w w' → Q .normal a' w') l a) : wpList P ops Q l a w := by
  refine wpList_of_quiet (C := Cls w.heap.size w) l a w ⟨⟨w, Below.refl _ _⟩, rfl⟩ ?_
  have e : (fun a' => ∀ w', Below w.heap.size w w' → Q .normal a' w') = (fun a' => ∀ w', Cls w.heap.size w w' → Q .normal a' w') := by
    funext a'
    exact propext ⟨fun h w' ⟨u, hu⟩ => by rw [hu]; exact h _ u.2, fun h w' hw => h w' ⟨⟨w', hw⟩, rfl⟩⟩
  rw [e] at h
  exact h
theorem list_at (d : Nat) {P : Program} {ops : Array Oper} {Q : Exit → Act → World → Prop} {l : List Oper} {o : Oper} {a : Act} {w : World} (_ : o.dst = some d)
    (h : ∀ W, w = W → wpQuiet P ops (Cls W.heap.size W) (fun a' => ∀ w', Below W.heap.size W w' → Q .normal a' w') (o :: l) a) : wpList P ops Q (o :: l) a w := list_cls (h w rfl)
theorem region_at {P : Program} {id : Nat} {Q : Exit → Act → World → Prop} {a : Act} {w : World} {l : List Oper} (hm : P.follows .mixedOrders = true) (hB : Region.lexB .any l.toArray = true)
    (h : ∀ W, w = W → wpQuiet P l.toArray (Cls W.heap.size W) (fun a' => ∀ w', Below W.heap.size W w' → Q .normal a' w') l a) : (Code.region id l.toArray true).wp P Q a w := region_cls _ hm hB (h w rfl)
theorem cls_row' {W : World} {b : Nat} {o : Obj} (h : W.heap[b]? = some o) : ∀ w', Cls W.heap.size W w' → w'.heap[b]? = some o := cls_row (row_lt h) h
theorem row_next {W W' : World} {b : Nat} {o : Obj} (hb : Below W.heap.size W W') (h : W.heap[b]? = some o) : W'.heap[b]? = some o := row_below hb (row_lt h) h
theorem below_next {w W W' : World} (h : Below w.heap.size w W) (hb : Below W.heap.size W W') : Below w.heap.size w W' := h.trans (hb.mono h.size)
/-- A spot's cells. -/
def spAt (x y : Int) (i : Nat) : Value := if i = 0 then .int .i8 x else .int .i8 y
theorem spAt_0 (x y : Int) : spAt x y 0 = .int .i8 x := rfl
theorem spAt_1 (x y : Int) : spAt x y 1 = .int .i8 y := rfl
theorem sp_row (x y : Int) : vrow 2 (fun i => spAt x y (0 + i)) = #[.int .i8 x, .int .i8 y] := rfl
theorem sp_vrow (x y : Int) : #[.int .i8 x, .int .i8 y] = vrow 2 (spAt x y) := rfl
theorem sh_row (s : Sh) : vrow 266 (fun i => s.at (0 + i)) = s.row := by simp
theorem Sh.at_wax1 (s : Sh) (y : Nat) (h : y < 8) : s.at (258 + y) = .int .u8 (s.wax y) := by
  unfold Sh.at; rw [if_neg (by omega), if_neg (by omega), if_neg (by omega), if_neg (by omega), show 258 + y - 258 = y by omega]
theorem Sh.at_wet1 (s : Sh) (k i : Nat) (hk : k = 2 + i) (h : i < 64) : s.at k = .int .i16 (s.wet i) := by
  unfold Sh.at; rw [if_neg (by omega), if_neg (by omega), if_pos (by omega), show k - 2 = i by omega]
theorem Sh.at_dye1 (s : Sh) (k i : Nat) (hk : k = 66 + i) (h : i < 192) : s.at k = .int .i16 (s.dye i) := by
  unfold Sh.at; rw [if_neg (by omega), if_neg (by omega), if_neg (by omega), if_pos (by omega), show k - 66 = i by omega]
theorem Sh.at_d3 (s : Sh) (k i : Nat) (hk : k = 66 + i) (h : i + 2 < 192) : vrow 3 (fun j => s.at (k + j)) = #[.int .i16 (s.dye i), .int .i16 (s.dye (i + 1)), .int .i16 (s.dye (i + 2))] := by
  show #[s.at (k + 0), s.at (k + 1), s.at (k + 2)] = _
  rw [s.at_dye1 (k + 0) i (by omega) (by omega), s.at_dye1 (k + 1) (i + 1) (by omega) (by omega), s.at_dye1 (k + 2) (i + 2) (by omega) (by omega)]
theorem rw_i8 : (Try.prog.underlying 31).map (·.isRow) = some false := by kernel_rfl
theorem rw_i16 : (Try.prog.underlying 32).map (·.isRow) = some false := by kernel_rfl
theorem rw_u8 : (Try.prog.underlying 5).map (·.isRow) = some false := by kernel_rfl
theorem rw_d3 : (Try.prog.underlying 35).map (·.isRow) = some true := by kernel_rfl
theorem rw_spot : (Try.prog.underlying 57).map (·.isRow) = some true := by kernel_rfl
theorem rw_sheet : (Try.prog.underlying 40).map (·.isRow) = some true := by kernel_rfl
theorem size_spot : (Try.prog.info? 57).map (·.size) = some 2 := by kernel_rfl
theorem eq_d3 (a b c a' b' c' : Int) (w : World) : (Op.equalIn 10000 35 (.agg #[.int .i16 a, .int .i16 b, .int .i16 c]) (.agg #[.int .i16 a', .int .i16 b', .int .i16 c'])).run Try.prog w = .ok ((a == a') && ((b == b') && (c == c'))) w := by
  obtain ⟨i, hi, hs⟩ := Option.map_eq_some_iff.1 size_i16
  have hc : Try.prog.cellsOf 32 = 1 := by kernel_rfl
  rw [run_equalIn_array w 9999 _ _ Try.underlying35 hi, hc]
  have e : List.range 3 = [0, 1, 2] := rfl
  have ha : ∀ w, (isAgg 32).run Try.prog w = .ok false w := fun w => run_isAgg_row w _ _ Try.underlying32
  simp only [e, Op.eqItems, part, Sem.run_bind, ha, Result.andThen_ok, Bool.false_eq_true, if_false]
  simp [run_equalIn_int w 9998 32 .i16 .i16 _ _ Try.underlying32]
  cases h1 : (a == a') <;> cases h2 : (b == b') <;> cases h3 : (c == c') <;> simp_all
/-- A CALL IN A QUIET REGION: its contract may ask that the world is as W below W's size. -/
theorem cls_call {P : Program} {f : FuncId} {args : Array Value} {W : World} {v : Value} (u : Ex W.heap.size W)
    (h : ∀ w, Below W.heap.size W w → Calls P f args w fun e w' => e = .returned v ∧ Below w.heap.size w w') : Calls P f args u.1 fun e w'' => e = .returned v ∧ Cls W.heap.size W w'' :=
  (h u.1 u.2).mono fun _ w' ⟨he, hb⟩ => ⟨he, ⟨⟨w', u.2.trans (hb.mono u.2.size)⟩, rfl⟩⟩
theorem below_of_eq {w w' : World} (h : w = w') : Below w.heap.size w w' := by rw [h]; exact Below.refl _ _
theorem in_yes (n a b : Int) (h1 : a ≤ n) (h2 : n ≤ b) (w : World) : Calls Try.prog 27 #[.int .i64 n, .int .i64 a, .int .i64 b] w fun e w' => e = .returned (.bool true) ∧ Below w.heap.size w w' := by
  go_enter Try.func27, Try.ntmps27
  go_wp2
  go_ret
  exact ⟨rfl, Below.refl _ _⟩
theorem in_no (n a b : Int) (h : n < a ∨ b < n) (w : World) : Calls Try.prog 27 #[.int .i64 n, .int .i64 a, .int .i64 b] w fun e w' => e = .returned (.bool false) ∧ Below w.heap.size w w' := by
  by_cases h1 : n < a
  · clear h
    go_enter Try.func27, Try.ntmps27
    go_wp2
    go_ret
    exact ⟨rfl, Below.refl _ _⟩
  · have h2 : decide (n ≤ b) = false := by simp; omega
    clear h
    go_enter Try.func27, Try.ntmps27
    go_wp2
    go_ret
    exact ⟨by rw [← h2]; rfl, Below.refl _ _⟩
end Go.Proofs.Ytfhfiaphdgfmnaa
