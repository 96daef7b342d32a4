import Derived.Test.YtfhfiaphdgfmnaaRows
import Derived.WalkKit
import Derived.WalkSpells
import Derived.WalkLawsBesides
import Derived.Deep.MidRow
import Derived.Deep.WholeRow
import Derived.Lib.Hide
import Derived.Laws.CopyRow
import Derived.StillTailTactics
import Derived.Deep.QuietTactic
import Derived.BigQuiet
namespace Go.Proofs.Ytfhfiaphdgfmnaa
open Go.RowKit
set_option maxRecDepth 100000
/-- n cells -/
def vrow (n : Nat) (f : Nat → Value) : Array Value := ((List.range n).map f).toArray
theorem vrow_size (n : Nat) (f : Nat → Value) : (vrow n f).size = n := by simp [vrow]
theorem vrow_get (n : Nat) (f : Nat → Value) (i : Nat) (hi : i < n) : (vrow n f)[i]? = some (f i) := by simp [vrow, hi]
theorem vrow_none (n : Nat) (f : Nat → Value) (i : Nat) (hi : ¬ i < n) : (vrow n f)[i]? = none := Array.getElem?_eq_none (by rw [vrow_size]; omega)
theorem vrow_ext (n : Nat) (f g : Nat → Value) (h : ∀ i, i < n → f i = g i) : vrow n f = vrow n g := by
  apply Array.ext_getElem?
  intro i
  by_cases hi : i < n
  · rw [vrow_get _ _ _ hi, vrow_get _ _ _ hi, h i hi]
  · rw [vrow_none _ _ _ hi, vrow_none _ _ _ hi]
/-- g over the m cells from o on -/
def over (f : Nat → Value) (o m : Nat) (g : Nat → Value) : Nat → Value := fun i => if o ≤ i ∧ i < o + m then g (i - o) else f i
theorem vrow_over_all (n : Nat) (f g : Nat → Value) : vrow n (over f 0 n g) = vrow n g := vrow_ext _ _ _ fun i hi => by simp [over, hi]
theorem vrow_set (n : Nat) (f : Nat → Value) (k : Nat) (x : Value) : (vrow n f).setIfInBounds k x = vrow n (over f k 1 fun _ => x) := by
  apply Array.ext_getElem?
  intro i
  rw [Array.getElem?_setIfInBounds, vrow_size]
  by_cases hi : i < n
  · rw [vrow_get _ _ _ hi, vrow_get _ _ _ hi]
    by_cases h1 : k = i
    · subst h1; simp [hi, over]
    · rw [if_neg h1]; unfold over; rw [if_neg (by omega)]
  · rw [vrow_none _ _ _ hi, vrow_none _ _ _ hi]
    by_cases h1 : k = i
    · subst h1; simp [hi]
    · rw [if_neg h1]
theorem vrow_mid (n o m : Nat) (f g : Nat → Value) (h : o + m ≤ n) : ((vrow n f).toList.take o ++ (vrow m g).toList ++ (vrow n f).toList.drop (o + m)).toArray = vrow n (over f o m g) := by
  apply Array.ext_getElem?
  intro i
  by_cases hi : i < n
  · rw [vrow_get _ _ _ hi]
    simp only [vrow, List.getElem?_toArray, List.getElem?_append, List.length_append, List.length_take, List.length_map, List.length_range]
    unfold over
    by_cases h1 : i < o
    · rw [if_pos (by omega), if_pos (by omega), if_neg (by omega)]; simp [h1, hi]
    · by_cases h2 : i < o + m
      · rw [if_pos (by omega), if_neg (by omega), if_pos (by omega)]
        rw [show min o n = o by omega]; simp [List.getElem?_range (show i - o < m by omega)]
      · rw [if_neg (by omega), if_neg (by omega)]
        simp [show min o n = o by omega, show o + m + (i - (o + m)) = i by omega, hi]
  · rw [vrow_none _ _ _ hi]
    exact Array.getElem?_eq_none (by simp [vrow_size]; omega)

theorem heap_at (w : World) (o : Obj) (n : Nat) (hn : n = w.heap.size) : (w.alloc o).heap[n]? = some o := by
  subst hn; show (w.heap.push o)[w.heap.size]? = _; simp
theorem heap_past (w : World) (o x : Obj) (n : Nat) (hn : n < w.heap.size) (hx : w.heap[n]? = some x) : (w.alloc o).heap[n]? = some x := by
  show (w.heap.push o)[n]? = _; rw [Array.getElem?_push, if_neg (by omega)]; exact hx
theorem setRow_at (w : World) (c c' : Array Value) (t : TypeId) (n : Nat) (hn : n = w.heap.size) : (w.alloc (.cells c t)).setRow n c' = w.alloc (.cells c' t) := by
  subst hn; exact World.setRow_alloc_new w c c' t
theorem setRow_past (w : World) (o : Obj) (c' : Array Value) (n : Nat) (hn : n < w.heap.size) : (w.alloc o).setRow n c' = (w.setRow n c').alloc o := by
  simp only [World.setRow, World.alloc]
  congr 1
  apply Array.ext_getElem?
  intro i
  rw [Array.getElem?_modify, Array.getElem?_push, Array.getElem?_push, Array.getElem?_modify]
  by_cases h : i = w.heap.size
  · subst h; simp; omega
  · simp [h]
theorem Below_setRow {B : Nat} {a w : World} (h : Below B a w) {g : Nat} (hg : B ≤ g) (cs : Array Value) : Below B a (w.setRow g cs) :=
  h.trans ⟨rfl, rfl, rfl, by simp, fun k hk => setRow_other w g k cs (by omega)⟩
theorem row_below {B : Nat} {w w' : World} (h : Below B w w') {g : Nat} (hg : g < B) {x : Obj} (hx : w.heap[g]? = some x) : w'.heap[g]? = some x := (h.block g hg).trans hx
theorem row_set {w : World} {g : Nat} {old : Array Value} {t : TypeId} (hg : w.heap[g]? = some (.cells old t)) (cs : Array Value) : (w.setRow g cs).heap[g]? = some (.cells cs t) := setRow_heap w g old cs t (0, 0) hg
theorem row_set' {w : World} {g k : Nat} (h : k ≠ g) {x : Obj} (hx : w.heap[k]? = some x) (cs : Array Value) : (w.setRow g cs).heap[k]? = some x := (setRow_other w g k cs h).trans hx
theorem cell_row {w : World} {g n : Nat} {f : Nat → Value} {t : TypeId} (hg : w.heap[g]? = some (.cells (vrow n f) t)) {i : Nat} (hi : i < n) : w.cell? ⟨g, i, none⟩ = some (f i) := by
  rw [cell_of_row _ _ _ _ _ _ hg, vrow_get _ _ _ hi]

/-- LOAD of m cells from offset o on. -/
theorem wpList_loadmid {P : Program} {ops : Array Oper} {rest : List Oper} {o : Oper} {a : Act} {w : World} {Q : Exit → Act → World → Prop} (hgd : o.guard = none) (ty : TypeId) (x : Operand) (ho : o.op = .load ty x)
    (b off : Nat) (hx : a.eval x = .pointer (some ⟨b, off, none⟩)) (n m : Nat) (f : Nat → Value) (t : TypeId) (d : TypeDesc) (hu : P.underlying ty = some d) (hd : d.isRow = true) (hi : (P.info? ty).map (·.size) = some m)
    (hg : w.heap[b]? = some (.cells (vrow n f) t)) (hb : off + m ≤ n)
    (h : wpList P ops Q rest (a.put o.dst (.agg (vrow m fun i => f (off + i)))) w) : wpList P ops Q (o :: rest) a w :=
  wpList_load_mid hgd ty x ho b off hx ((List.range m).map fun i => f (off + i)) d (fun j v hj => by
    have hjm : j < m := by
      by_cases c : j < m
      · exact c
      · rw [List.getElem?_eq_none (by simp; omega)] at hj; cases hj
    rw [cell_row hg (by omega)]
    simp [hjm] at hj; rw [hj]) hu hd (by simpa using hi) h
/-- STORE of m cells from offset o on. -/
theorem wpList_storemid {P : Program} {ops : Array Oper} {rest : List Oper} {o : Oper} {a : Act} {w : World} {Q : Exit → Act → World → Prop} (hgd : o.guard = none) (ty : TypeId) (x y : Operand) (ho : o.op = .store ty x y)
    (b off : Nat) (hx : a.eval x = .pointer (some ⟨b, off, none⟩)) (n m : Nat) (f g : Nat → Value) (hy : a.eval y = .agg (vrow m g)) (t : TypeId) (hi : (P.info? ty).map (·.size) = some m)
    (hg : w.heap[b]? = some (.cells (vrow n f) t)) (hb : off + m ≤ n) (h1 : ∀ i, i < m → (g i).oneCell' = true)
    (h : wpList P ops Q rest (a.put o.dst undef) (w.setRow b (vrow n (over f off m g)))) : wpList P ops Q (o :: rest) a w := by
  refine wpList_plain hgd fun K hK => ?_
  have hs := run_storeCells_at (P := P) b off t (vrow m g).toList 0 (vrow n f) w hg (by simp [vrow_size]; omega) (fun v hv => by
    simp [vrow] at hv; obtain ⟨i, hi, rfl⟩ := hv; exact h1 i hi)
  have hm : (vrow m g).toList.length = m := by simp [vrow_size]
  rw [hm, Nat.add_zero, vrow_mid n off m f g hb] at hs
  have hrun : (storeVar ty ⟨b, off, none⟩ (.agg (vrow m g))).run P w = .ok () (w.setRow b (vrow n (over f off m g))) := by
    cases hq : P.info? ty with
    | none => simp [hq] at hi
    | some i =>
      have hs' : (vrow m g).size = i.size := by simp [hq] at hi; rw [vrow_size]; omega
      simp [storeVar, sizeOf, typeInfo, hq, Value.cells, hs', hs]
  unfold Oper.wp execOp
  simp only [ho, hx, hy, Instr.storeAt, Instr.sureAddr, Sem.run_bind, Sem.run_pure, Result.andThen_ok, hrun]
  exact hK _ _ h

/-- n integer cells of a kind -/
abbrev irow (kd : IntKind) (n : Nat) (a : Nat → Int) : Array Value := vrow n fun i => .int kd (a i)
/-- the first k of a, and zeros behind them -/
def upto (a : Nat → Int) (k : Nat) : Nat → Int := fun i => if i < k then a i else 0
theorem irow_ext (kd : IntKind) (n : Nat) (a b : Nat → Int) (h : ∀ i, i < n → a i = b i) : irow kd n a = irow kd n b := vrow_ext _ _ _ fun i hi => by rw [h i hi]
theorem upto_zero (kd : IntKind) (n : Nat) (a : Nat → Int) : irow kd n (upto a 0) = irow kd n (fun _ => 0) := irow_ext _ _ _ _ fun i _ => by simp [upto]
theorem upto_full (kd : IntKind) (n : Nat) (a : Nat → Int) : irow kd n (upto a n) = irow kd n a := irow_ext _ _ _ _ fun i hi => by simp [upto, hi]
theorem upto_over (kd : IntKind) (n : Nat) (a : Nat → Int) (k m : Nat) : vrow n (over (fun i => .int kd (upto a k i)) k m (fun i => .int kd (a (k + i)))) = irow kd n (upto a (k + m)) := vrow_ext _ _ _ fun i _ => by
  unfold over upto
  by_cases h : k ≤ i ∧ i < k + m
  · rw [if_pos h, if_pos (by omega)]; show Value.int kd (a (k + (i - k))) = _; rw [show k + (i - k) = i by omega]
  · rw [if_neg h]
    by_cases h2 : i < k
    · dsimp only; rw [if_pos h2, if_pos (by omega)]
    · dsimp only; rw [if_neg h2, if_neg (by omega)]
/-- STORE of a whole row. -/
theorem wpList_storeall {P : Program} {ops : Array Oper} {rest : List Oper} {o : Oper} {a : Act} {w : World} {Q : Exit → Act → World → Prop} (hgd : o.guard = none) (ty : TypeId) (x y : Operand) (ho : o.op = .store ty x y)
    (b : Nat) (hx : a.eval x = .pointer (some ⟨b, 0, none⟩)) (n : Nat) (f g : Nat → Value) (hy : a.eval y = .agg (vrow n g)) (t : TypeId) (hi : (P.info? ty).map (·.size) = some n)
    (hg : w.heap[b]? = some (.cells (vrow n f) t)) (h1 : ∀ i, i < n → (g i).oneCell' = true)
    (h : wpList P ops Q rest (a.put o.dst undef) (w.setRow b (vrow n g))) : wpList P ops Q (o :: rest) a w :=
  wpList_storemid hgd ty x y ho b 0 hx n n f g hy t hi hg (by omega) h1 (by rw [vrow_over_all]; exact h)
/-- LOAD of a whole row. -/
theorem wpList_loadall {P : Program} {ops : Array Oper} {rest : List Oper} {o : Oper} {a : Act} {w : World} {Q : Exit → Act → World → Prop} (hgd : o.guard = none) (ty : TypeId) (x : Operand) (ho : o.op = .load ty x)
    (b : Nat) (hx : a.eval x = .pointer (some ⟨b, 0, none⟩)) (n : Nat) (f : Nat → Value) (t : TypeId) (d : TypeDesc) (hu : P.underlying ty = some d) (hd : d.isRow = true) (hi : (P.info? ty).map (·.size) = some n)
    (hg : w.heap[b]? = some (.cells (vrow n f) t))
    (h : wpList P ops Q rest (a.put o.dst (.agg (vrow n f))) w) : wpList P ops Q (o :: rest) a w :=
  wpList_loadmid hgd ty x ho b 0 hx n n f t d hu hd hi hg (by omega) (by simpa using h)
/-- THE RESULT out of a row. -/
theorem ret_row {P : Program} {fn : Func} {R : Ending → World → Prop} {a : Act} {w : World} {p : Tmp} {ty : TypeId} (hr : fn.results = #[.cell p ty]) (b : Nat) (n : Nat) (f : Nat → Value) (t : TypeId) (d : TypeDesc) (hu : P.underlying ty = some d) (hd : d.isRow = true) (hi : (P.info? ty).map (·.size) = some n)
    (hp : a.tmps.getD p undef = .pointer (some ⟨b, 0, none⟩)) (hdf : a.defers = []) (hg : w.heap[b]? = some (.cells (vrow n f) t)) (h : R (.returned (.agg (vrow n f))) w) : bodyPost P fn R .ret a w :=
  bodyPost_ret (results_cell_row hr _ _ b t _ (0, 0) d hp hg hu (by cases d <;> first | rfl | exact hd) (by rw [vrow_size]; exact hi)) hdf h
/-- A function that copies a row, at the head of its loop: j cells have been copied. -/
def Copying (kd : IntKind) (N : Nat) (T : TypeId) (a : Nat → Int) (j : Nat) (w wr : World) : Prop :=
  Below w.heap.size w wr ∧ w.heap.size + 3 ≤ wr.heap.size ∧ wr.heap[w.heap.size]? = some (.cells (irow kd N a) T) ∧ wr.heap[w.heap.size + 1]? = some (.cells (irow kd N fun _ => 0) T) ∧ wr.heap[w.heap.size + 1 + 1]? = some (.cells (irow kd N (upto a j)) T)
theorem Copying.start (kd : IntKind) (N : Nat) (T : TypeId) (a : Nat → Int) (w : World) :
    Copying kd N T a 0 w (((w.alloc (.cells (irow kd N a) T)).alloc (.cells (irow kd N fun _ => 0) T)).alloc (.cells (irow kd N fun _ => 0) T)) :=
  ⟨(((Below.refl _ _).alloc (Nat.le_refl _) _).alloc (by simp) _).alloc (by simp; omega) _, by simp,
   heap_past _ _ _ _ (by simp; omega) (heap_past _ _ _ _ (by simp) (heap_at _ _ _ rfl)), heap_past _ _ _ _ (by simp) (heap_at _ _ _ (by simp)), by rw [upto_zero]; exact heap_at _ _ _ (by simp)⟩
theorem Copying.step {kd : IntKind} {N : Nat} {T : TypeId} {a : Nat → Int} {j m : Nat} {w wr w1 : World} (h : Copying kd N T a j w wr) (hb1 : Below wr.heap.size wr w1) :
    Copying kd N T a (j + m) w (w1.setRow (w.heap.size + 1 + 1) (vrow N (over (fun i => .int kd (upto a j i)) j m (fun i => .int kd (a (j + i)))))) := by
  obtain ⟨hB, hS, h0, h1, h2⟩ := h
  have hs := hb1.size
  refine ⟨Below_setRow (hB.trans (hb1.mono (by omega))) (by omega) _, by simp; omega, row_set' (by omega) (row_below hb1 (by omega) h0) _, row_set' (by omega) (row_below hb1 (by omega) h1) _, ?_⟩
  rw [upto_over]
  exact row_set (row_below hb1 (by omega) h2) _
/-- LOAD of one cell. -/
theorem wpList_load1 {P : Program} {ops : Array Oper} {rest : List Oper} {o : Oper} {a : Act} {w : World} {Q : Exit → Act → World → Prop} (hgd : o.guard = none) (ty : TypeId) (x : Operand) (ho : o.op = .load ty x)
    (b off : Nat) (hx : a.eval x = .pointer (some ⟨b, off, none⟩)) (n : Nat) (f : Nat → Value) (t : TypeId) (d : TypeDesc) (hu : P.underlying ty = some d) (hd : d.isRow = false)
    (hg : w.heap[b]? = some (.cells (vrow n f) t)) (hb : off < n)
    (h : wpList P ops Q rest (a.put o.dst (f off)) w) : wpList P ops Q (o :: rest) a w := by
  refine wpList_plain hgd fun K hK => ?_
  have hc := cell_row hg hb
  have hagg : (isAgg ty).run P w = .ok false w := by
    unfold isAgg
    rw [Sem.run_bind, run_underlying hu w]
    cases d <;> simp_all [TypeDesc.isRow]
  unfold Oper.wp execOp
  simp only [ho, hx, Instr.loadAt, Instr.sureAddr, Sem.run_bind, Sem.run_pure, Result.andThen_ok, loadVar, hagg, Bool.false_eq_true, if_false, run_load, hc]
  exact hK _ _ h
/-- STORE of one cell. -/
theorem wpList_store1 {P : Program} {ops : Array Oper} {rest : List Oper} {o : Oper} {a : Act} {w : World} {Q : Exit → Act → World → Prop} (hgd : o.guard = none) (ty : TypeId) (x y : Operand) (ho : o.op = .store ty x y)
    (b off : Nat) (hx : a.eval x = .pointer (some ⟨b, off, none⟩)) (n : Nat) (f : Nat → Value) (v : Value) (hy : a.eval y = v) (t : TypeId) (hi : (P.info? ty).map (·.size) = some 1)
    (hg : w.heap[b]? = some (.cells (vrow n f) t)) (hb : off < n) (h1 : v.oneCell' = true)
    (h : wpList P ops Q rest (a.put o.dst undef) (w.setRow b (vrow n (over f off 1 fun _ => v)))) : wpList P ops Q (o :: rest) a w := by
  refine wpList_plain hgd fun K hK => ?_
  have hcs : v.cells = #[v] := by cases v <;> first | rfl | cases h1
  have hs := run_storeCells_at (P := P) b off t [v] 0 (vrow n f) w hg (by simp [vrow_size]; omega) (fun u hu => by simp at hu; rw [hu]; exact h1)
  have hm := vrow_mid n off 1 f (fun _ => v) (by omega)
  rw [show (vrow 1 fun _ => v).toList = [v] from rfl] at hm
  simp only [List.length_singleton, Nat.add_zero, hm] at hs
  have hrun : (storeVar ty ⟨b, off, none⟩ v).run P w = .ok () (w.setRow b (vrow n (over f off 1 fun _ => v))) := by
    cases hq : P.info? ty with
    | none => simp [hq] at hi
    | some i =>
      have hs' : i.size = 1 := by simpa [hq] using hi
      simp [storeVar, sizeOf, typeInfo, hq, hcs, hs', hs]
  unfold Oper.wp execOp
  simp only [ho, hx, hy, Instr.storeAt, Instr.sureAddr, Sem.run_bind, Sem.run_pure, Result.andThen_ok, hrun]
  exact hK _ _ h
theorem over_one (f : Nat → Value) (j : Nat) (g : Nat → Value) : over f j 1 (fun _ => g j) = over f j 1 (fun i => g (j + i)) := by
  funext i
  unfold over
  by_cases h : j ≤ i ∧ i < j + 1
  · rw [if_pos h, if_pos h]; obtain rfl : i = j := by omega
    simp
  · rw [if_neg h, if_neg h]
theorem Copying.step1 {kd : IntKind} {N : Nat} {T : TypeId} {a : Nat → Int} {j : Nat} {w wr : World} (h : Copying kd N T a j w wr) :
    Copying kd N T a (j + 1) w (wr.setRow (w.heap.size + 1 + 1) (vrow N (over (fun i => .int kd (upto a j i)) j 1 (fun _ => .int kd (a j))))) := by
  have h' := h.step (m := 1) (Below.refl _ _)
  rw [over_one _ j fun i => .int kd (a i)]
  exact h'
/-- The call's own rows, from block B on; below B the world is as it was. -/
def Own (B : Nat) (w0 w : World) (rows : List (Nat × Array Value × TypeId)) : Prop :=
  Below B w0 w ∧ B ≤ w.heap.size ∧ ∀ r ∈ rows, B ≤ r.1 ∧ r.1 < w.heap.size ∧ w.heap[r.1]? = some (.cells r.2.1 r.2.2)
theorem Own.start (w : World) : Own w.heap.size w w [] := ⟨Below.refl _ _, Nat.le_refl _, fun _ h => by cases h⟩
theorem Own.below {B : Nat} {w0 w : World} {rows : List (Nat × Array Value × TypeId)} (h : Own B w0 w rows) : Below B w0 w := h.1
theorem Own.get {B : Nat} {w0 w : World} {rows : List (Nat × Array Value × TypeId)} (h : Own B w0 w rows) {b : Nat} {cs : Array Value} {t : TypeId} (hm : (b, cs, t) ∈ rows) : w.heap[b]? = some (.cells cs t) := (h.2.2 _ hm).2.2
theorem Own.lt {B : Nat} {w0 w : World} {rows : List (Nat × Array Value × TypeId)} (h : Own B w0 w rows) {b : Nat} {cs : Array Value} {t : TypeId} (hm : (b, cs, t) ∈ rows) : b < w.heap.size := (h.2.2 _ hm).2.1
theorem Own.ge {B : Nat} {w0 w : World} {rows : List (Nat × Array Value × TypeId)} (h : Own B w0 w rows) {b : Nat} {cs : Array Value} {t : TypeId} (hm : (b, cs, t) ∈ rows) : B ≤ b := (h.2.2 _ hm).1
theorem Own.alloc {B : Nat} {w0 w : World} {rows : List (Nat × Array Value × TypeId)} (h : Own B w0 w rows) (cs : Array Value) (t : TypeId) (n : Nat) (hn : n = w.heap.size) : Own B w0 (w.alloc (.cells cs t)) ((n, cs, t) :: rows) := by
  subst hn
  refine ⟨h.1.alloc h.2.1 _, by simp; have := h.2.1; omega, fun r hr => ?_⟩
  rcases List.mem_cons.1 hr with rfl | hr
  · exact ⟨h.2.1, by simp, heap_at _ _ _ rfl⟩
  · obtain ⟨h1, h2, h3⟩ := h.2.2 r hr
    exact ⟨h1, by simp; omega, heap_past _ _ _ _ h2 h3⟩
theorem Own.drew {B : Nat} {w0 w : World} {rows : List (Nat × Array Value × TypeId)} (h : Own B w0 w rows) : Own B w0 w.drew rows := ⟨h.1.drew, h.2.1, h.2.2⟩
theorem Own.drewN {B : Nat} {w0 w : World} {rows : List (Nat × Array Value × TypeId)} (h : Own B w0 w rows) (n : Nat) : Own B w0 (w.drewN n) rows := ⟨below_drewN h.1 n, h.2.1, h.2.2⟩
theorem Own.call {B n : Nat} {w0 w w1 : World} {rows : List (Nat × Array Value × TypeId)} (h : Own B w0 w rows) (hb : Below n w w1) (hn : w.heap.size ≤ n) : Own B w0 w1 rows := by
  have hs := hb.size
  refine ⟨h.1.trans (hb.mono (by have := h.2.1; omega)), by have := h.2.1; omega, fun r hr => ?_⟩
  obtain ⟨h1, h2, h3⟩ := h.2.2 r hr
  exact ⟨h1, by omega, row_below hb (by omega) h3⟩
/-- A row is written. -/
def putRow (b : Nat) (cs : Array Value) (rows : List (Nat × Array Value × TypeId)) : List (Nat × Array Value × TypeId) := rows.map fun r => if r.1 = b then (r.1, cs, r.2.2) else r
theorem Own.set {B : Nat} {w0 w : World} {rows : List (Nat × Array Value × TypeId)} (h : Own B w0 w rows) (b : Nat) (hb : B ≤ b) (cs : Array Value) : Own B w0 (w.setRow b cs) (putRow b cs rows) := by
  refine ⟨Below_setRow h.1 hb cs, by simp; exact h.2.1, fun r hr => ?_⟩
  obtain ⟨q, hq, rfl⟩ := List.mem_map.1 hr
  obtain ⟨h1, h2, h3⟩ := h.2.2 q hq
  by_cases e : q.1 = b
  · rw [if_pos e]
    exact ⟨h1, by simp; exact h2, by subst e; exact row_set h3 cs⟩
  · rw [if_neg e]
    exact ⟨h1, by simp; exact h2, row_set' e h3 cs⟩
theorem Own.keep {B : Nat} {w0 w : World} {rows rows' : List (Nat × Array Value × TypeId)} (h : Own B w0 w rows) (hs : ∀ r ∈ rows', r ∈ rows) : Own B w0 w rows' := ⟨h.1, h.2.1, fun r hr => h.2.2 r (hs r hr)⟩

/-- A sheet's numbers. -/
structure Sh where
  wide : Int
  high : Int
  wet : Nat → Int
  dye : Nat → Int
  wax : Nat → Int
def Sh.at (s : Sh) (i : Nat) : Value := if i = 0 then .int .i8 s.wide else if i = 1 then .int .i8 s.high else if i < 66 then .int .i16 (s.wet (i - 2)) else if i < 258 then .int .i16 (s.dye (i - 66)) else .int .u8 (s.wax (i - 258))
abbrev Sh.row (s : Sh) : Array Value := vrow 266 s.at
theorem Sh.one (s : Sh) (i : Nat) : (s.at i).oneCell' = true := by unfold Sh.at; split; rfl; split; rfl; split; rfl; split <;> rfl
theorem Sh.at_wet (s : Sh) : vrow 64 (fun i => s.at (2 + i)) = irow .i16 64 s.wet := vrow_ext _ _ _ fun i hi => by
  unfold Sh.at; rw [if_neg (by omega), if_neg (by omega), if_pos (by omega), show 2 + i - 2 = i by omega]
theorem Sh.at_dye (s : Sh) : vrow 192 (fun i => s.at (66 + i)) = irow .i16 192 s.dye := vrow_ext _ _ _ fun i hi => by
  unfold Sh.at; rw [if_neg (by omega), if_neg (by omega), if_neg (by omega), if_pos (by omega), show 66 + i - 66 = i by omega]
theorem Sh.at_wax (s : Sh) : vrow 8 (fun i => s.at (258 + i)) = irow .u8 8 s.wax := vrow_ext _ _ _ fun i hi => by
  unfold Sh.at; rw [if_neg (by omega), if_neg (by omega), if_neg (by omega), if_neg (by omega), show 258 + i - 258 = i by omega]
def Sh.zero : Sh := ⟨0, 0, fun _ => 0, fun _ => 0, fun _ => 0⟩
theorem row_lt {w : World} {g : Nat} {x : Obj} (h : w.heap[g]? = some x) : g < w.heap.size := by
  by_cases c : g < w.heap.size
  · exact c
  · rw [Array.getElem?_eq_none (by omega)] at h; cases h
theorem row_call {n : Nat} {w w1 : World} (hb : Below n w w1) (hn : w.heap.size ≤ n) {g : Nat} {x : Obj} (hx : w.heap[g]? = some x) : w1.heap[g]? = some x := row_below hb (by have := row_lt hx; omega) hx
theorem below_call {n : Nat} {w W w1 : World} (h : Below w.heap.size w W) (hb : Below n W w1) (hn : W.heap.size ≤ n) : Below w.heap.size w w1 := h.trans (hb.mono (by have := h.size; omega))
theorem run_isAgg_row {P : Program} (w : World) (ty : TypeId) (d : TypeDesc) (hu : P.underlying ty = some d) : (isAgg ty).run P w = .ok d.isRow w := by
  unfold isAgg
  rw [Sem.run_bind, run_underlying hu w]
  cases d <;> simp [TypeDesc.isRow]
/-- IN A REGION THAT DRAWS ITS ORDER: a load of m cells. -/
theorem wpStill_loadmid {P : Program} {ops : Array Oper} {w : World} {Q : Act → Prop} {rest : List Oper} {o : Oper} {a : Act} (hgd : o.guard = none) (ty : TypeId) (x : Operand) (ho : o.op = .load ty x)
    (b off : Nat) (hx : a.eval x = .pointer (some ⟨b, off, none⟩)) (n m : Nat) (f : Nat → Value) (t : TypeId) (d : TypeDesc) (hu : P.underlying ty = some d) (hd : d.isRow = true) (hi : (P.info? ty).map (·.size) = some m)
    (hg : w.heap[b]? = some (.cells (vrow n f) t)) (hb : off + m ≤ n)
    (h : wpStill P ops w Q rest (a.put o.dst (.agg (vrow m fun i => f (off + i))))) : wpStill P ops w Q (o :: rest) a := by
  refine wpStill_step fun K hK => ?_
  have hr := run_loadAt_mid (P := P) w b off ty ((List.range m).map fun i => f (off + i)) d (fun j v hj => by
    have hjm : j < m := by
      by_cases c : j < m
      · exact c
      · rw [List.getElem?_eq_none (by simp; omega)] at hj; cases hj
    rw [cell_row hg (by omega)]
    simp [hjm] at hj; rw [hj]) hu hd (by simpa using hi)
  simp only [Region.wanted, hgd, if_true, Oper.still, execOp, ho, hx, Sem.run_bind, hr, Result.andThen_ok, Sem.run_pure, Oper.stillUpon]
  exact ⟨trivial, hK _ h⟩
/-- IN A REGION THAT DRAWS ITS ORDER: a load of one cell. -/
theorem wpStill_load1 {P : Program} {ops : Array Oper} {w : World} {Q : Act → Prop} {rest : List Oper} {o : Oper} {a : Act} (hgd : o.guard = none) (ty : TypeId) (x : Operand) (ho : o.op = .load ty x)
    (b off : Nat) (hx : a.eval x = .pointer (some ⟨b, off, none⟩)) (n : Nat) (f : Nat → Value) (t : TypeId) (d : TypeDesc) (hu : P.underlying ty = some d) (hd : d.isRow = false)
    (hg : w.heap[b]? = some (.cells (vrow n f) t)) (hb : off < n)
    (h : wpStill P ops w Q rest (a.put o.dst (f off))) : wpStill P ops w Q (o :: rest) a := by
  refine wpStill_step fun K hK => ?_
  have hc := cell_row hg hb
  have hr : (Instr.loadAt ty (.pointer (some ⟨b, off, none⟩))).run P w = .ok (f off) w := by
    simp only [Instr.loadAt, Instr.sureAddr, Sem.run_bind, Sem.run_pure, Result.andThen_ok, loadVar, run_isAgg_row w ty d hu, hd, Bool.false_eq_true, if_false, run_load, hc]
  simp only [Region.wanted, hgd, if_true, Oper.still, execOp, ho, hx, Sem.run_bind, hr, Result.andThen_ok, Sem.run_pure, Oper.stillUpon]
  exact ⟨trivial, hK _ h⟩
/-- Two boxed rows, at the head of a loop that compares them. -/
def Twin (n : Nat) (f : Nat → Value) (T : TypeId) (w wr : World) : Prop :=
  Below w.heap.size w wr ∧ wr.heap[w.heap.size]? = some (.cells (vrow n f) T) ∧ wr.heap[w.heap.size + 1]? = some (.cells (vrow n f) T)
theorem Twin.start (n : Nat) (f : Nat → Value) (T : TypeId) (w : World) : Twin n f T w ((w.alloc (.cells (vrow n f) T)).alloc (.cells (vrow n f) T)) :=
  ⟨((Below.refl _ _).alloc (Nat.le_refl _) _).alloc (by simp) _, heap_past _ _ _ _ (by simp) (heap_at _ _ _ rfl), heap_at _ _ _ (by simp)⟩
theorem Twin.drew {n : Nat} {f : Nat → Value} {T : TypeId} {w wr : World} (h : Twin n f T w wr) (k : Nat) : Twin n f T w (wr.drewN k) := ⟨below_drewN h.1 k, h.2.1, h.2.2⟩
theorem Twin.drew1 {n : Nat} {f : Nat → Value} {T : TypeId} {w wr : World} (h : Twin n f T w wr) : Twin n f T w wr.drew := ⟨h.1.drew, h.2.1, h.2.2⟩
theorem Twin.call {n k : Nat} {f : Nat → Value} {T : TypeId} {w wr w1 : World} (h : Twin n f T w wr) (hb : Below k wr w1) (hn : wr.heap.size ≤ k) : Twin n f T w w1 := ⟨below_call h.1 hb hn, row_call hb hn h.2.1, row_call hb hn h.2.2⟩
theorem Sh.at_0 (s : Sh) : s.at 0 = .int .i8 s.wide := rfl
theorem Sh.at_1 (s : Sh) : s.at 1 = .int .i8 s.high := rfl
end Go.Proofs.Ytfhfiaphdgfmnaa
