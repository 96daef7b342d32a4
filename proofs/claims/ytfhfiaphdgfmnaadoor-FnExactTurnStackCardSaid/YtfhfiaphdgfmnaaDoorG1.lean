import Derived.Test.YtfhfiaphdgfmnaaDoorRows
import Derived.WalkKit
import Derived.WalkSpells
import Derived.WalkLawsBesides
import Derived.Deep.MidRow
import Derived.Deep.WholeRow
import Derived.Lib.Hide
import Derived.Laws.CopyRow
import Derived.StillTailTactics
import Derived.Deep.QuietTactic
import Derived.BigQuiet
import Derived.ChangeKeysEq
import Derived.RangeFuncNested
import Derived.RangeFuncBound
import Derived.RangeFuncCalls
import Derived.RangeFuncLeaves
import Derived.OwnWalkIn
import Derived.TacticsInMore
import Derived.LoopNIn
import Derived.LoopIn
import Derived.Shelf.Abstract
import Derived.Deep.RegionHeld3
namespace Go.Proofs.YtfhfiaphdgfmnaaDoor
open Go.RowKit
set_option maxRecDepth 100000
/-- n cells -/
def vrow (n : Nat) (f : Nat → Value) : Array Value := ((List.range n).map f).toArray
theorem vrow_size (n : Nat) (f : Nat → Value) : (vrow n f).size = n := by simp [vrow]
theorem vrow_get (n : Nat) (f : Nat → Value) (i : Nat) (hi : i < n) : (vrow n f)[i]? = some (f i) := by simp [vrow, hi]
theorem vrow_none (n : Nat) (f : Nat → Value) (i : Nat) (hi : ¬ i < n) : (vrow n f)[i]? = none := Array.getElem?_eq_none (by rw [vrow_size]; omega)
theorem vrow_ext (n : Nat) (f g : Nat → Value) (h : ∀ i, i < n → f i = g i) : vrow n f = vrow n g := by
  apply Array.ext_getElem?
  intro i
  by_cases hi : i < n
  · rw [vrow_get _ _ _ hi, vrow_get _ _ _ hi, h i hi]
  · rw [vrow_none _ _ _ hi, vrow_none _ _ _ hi]
/-- g over the m cells from o on -/
def over (f : Nat → Value) (o m : Nat) (g : Nat → Value) : Nat → Value := fun i => if o ≤ i ∧ i < o + m then g (i - o) else f i
theorem vrow_over_all (n : Nat) (f g : Nat → Value) : vrow n (over f 0 n g) = vrow n g := vrow_ext _ _ _ fun i hi => by simp [over, hi]
theorem vrow_set (n : Nat) (f : Nat → Value) (k : Nat) (x : Value) : (vrow n f).setIfInBounds k x = vrow n (over f k 1 fun _ => x) := by
  apply Array.ext_getElem?
  intro i
  rw [Array.getElem?_setIfInBounds, vrow_size]
  by_cases hi : i < n
  · rw [vrow_get _ _ _ hi, vrow_get _ _ _ hi]
    by_cases h1 : k = i
    · subst h1; simp [hi, over]
    · rw [if_neg h1]; unfold over; rw [if_neg (by omega)]
  · rw [vrow_none _ _ _ hi, vrow_none _ _ _ hi]
    by_cases h1 : k = i
    · subst h1; simp [hi]
    · rw [if_neg h1]
theorem vrow_mid (n o m : Nat) (f g : Nat → Value) (h : o + m ≤ n) : ((vrow n f).toList.take o ++ (vrow m g).toList ++ (vrow n f).toList.drop (o + m)).toArray = vrow n (over f o m g) := by
  apply Array.ext_getElem?
  intro i
  by_cases hi : i < n
  · rw [vrow_get _ _ _ hi]
    simp only [vrow, List.getElem?_toArray, List.getElem?_append, List.length_append, List.length_take, List.length_map, List.length_range]
    unfold over
    by_cases h1 : i < o
    · rw [if_pos (by omega), if_pos (by omega), if_neg (by omega)]; simp [h1, hi]
    · by_cases h2 : i < o + m
      · rw [if_pos (by omega), if_neg (by omega), if_pos (by omega)]
        rw [show min o n = o by omega]; simp [List.getElem?_range (show i - o < m by omega)]
      · rw [if_neg (by omega), if_neg (by omega)]
        simp [show min o n = o by omega, show o + m + (i - (o + m)) = i by omega, hi]
  · rw [vrow_none _ _ _ hi]
    exact Array.getElem?_eq_none (by simp [vrow_size]; omega)
theorem heap_at (w : World) (o : Obj) (n : Nat) (hn : n = w.heap.size) : (w.alloc o).heap[n]? = some o := by
  subst hn; show (w.heap.push o)[w.heap.size]? = _; simp
theorem heap_past (w : World) (o x : Obj) (n : Nat) (hn : n < w.heap.size) (hx : w.heap[n]? = some x) : (w.alloc o).heap[n]? = some x := by
  show (w.heap.push o)[n]? = _; rw [Array.getElem?_push, if_neg (by omega)]; exact hx
theorem setRow_at (w : World) (c c' : Array Value) (t : TypeId) (n : Nat) (hn : n = w.heap.size) : (w.alloc (.cells c t)).setRow n c' = w.alloc (.cells c' t) := by
  subst hn; exact World.setRow_alloc_new w c c' t
theorem setRow_past (w : World) (o : Obj) (c' : Array Value) (n : Nat) (hn : n < w.heap.size) : (w.alloc o).setRow n c' = (w.setRow n c').alloc o := by
  simp only [World.setRow, World.alloc]
  congr 1
  apply Array.ext_getElem?
  intro i
  rw [Array.getElem?_modify, Array.getElem?_push, Array.getElem?_push, Array.getElem?_modify]
  by_cases h : i = w.heap.size
  · subst h; simp; omega
  · simp [h]
theorem Below_setRow {B : Nat} {a w : World} (h : Below B a w) {g : Nat} (hg : B ≤ g) (cs : Array Value) : Below B a (w.setRow g cs) :=
  h.trans ⟨rfl, rfl, rfl, by simp, fun k hk => setRow_other w g k cs (by omega)⟩
theorem row_below {B : Nat} {w w' : World} (h : Below B w w') {g : Nat} (hg : g < B) {x : Obj} (hx : w.heap[g]? = some x) : w'.heap[g]? = some x := (h.block g hg).trans hx
theorem row_set {w : World} {g : Nat} {old : Array Value} {t : TypeId} (hg : w.heap[g]? = some (.cells old t)) (cs : Array Value) : (w.setRow g cs).heap[g]? = some (.cells cs t) := setRow_heap w g old cs t (0, 0) hg
theorem row_set' {w : World} {g k : Nat} (h : k ≠ g) {x : Obj} (hx : w.heap[k]? = some x) (cs : Array Value) : (w.setRow g cs).heap[k]? = some x := (setRow_other w g k cs h).trans hx
theorem cell_row {w : World} {g n : Nat} {f : Nat → Value} {t : TypeId} (hg : w.heap[g]? = some (.cells (vrow n f) t)) {i : Nat} (hi : i < n) : w.cell? ⟨g, i, none⟩ = some (f i) := by
  rw [cell_of_row _ _ _ _ _ _ hg, vrow_get _ _ _ hi]
/-- LOAD of m cells from offset o on. -/
theorem wpList_loadmid {P : Program} {ops : Array Oper} {rest : List Oper} {o : Oper} {a : Act} {w : World} {Q : Exit → Act → World → Prop} (hgd : o.guard = none) (ty : TypeId) (x : Operand) (ho : o.op = .load ty x)
    (b off : Nat) (hx : a.eval x = .pointer (some ⟨b, off, none⟩)) (n m : Nat) (f : Nat → Value) (t : TypeId) (d : TypeDesc) (hu : P.underlying ty = some d) (hd : d.isRow = true) (hi : (P.info? ty).map (·.size) = some m)
    (hg : w.heap[b]? = some (.cells (vrow n f) t)) (hb : off + m ≤ n)
    (h : wpList P ops Q rest (a.put o.dst (.agg (vrow m fun i => f (off + i)))) w) : wpList P ops Q (o :: rest) a w :=
  wpList_load_mid hgd ty x ho b off hx ((List.range m).map fun i => f (off + i)) d (fun j v hj => by
    have hjm : j < m := by
      by_cases c : j < m
      · exact c
      · rw [List.getElem?_eq_none (by simp; omega)] at hj; cases hj
    rw [cell_row hg (by omega)]
    simp [hjm] at hj; rw [hj]) hu hd (by simpa using hi) h
/-- STORE of m cells from offset o on. -/
theorem wpList_storemid {P : Program} {ops : Array Oper} {rest : List Oper} {o : Oper} {a : Act} {w : World} {Q : Exit → Act → World → Prop} (hgd : o.guard = none) (ty : TypeId) (x y : Operand) (ho : o.op = .store ty x y)
    (b off : Nat) (hx : a.eval x = .pointer (some ⟨b, off, none⟩)) (n m : Nat) (f g : Nat → Value) (hy : a.eval y = .agg (vrow m g)) (t : TypeId) (hi : (P.info? ty).map (·.size) = some m)
    (hg : w.heap[b]? = some (.cells (vrow n f) t)) (hb : off + m ≤ n) (h1 : ∀ i, i < m → (g i).oneCell' = true)
    (h : wpList P ops Q rest (a.put o.dst undef) (w.setRow b (vrow n (over f off m g)))) : wpList P ops Q (o :: rest) a w := by
  refine wpList_plain hgd fun K hK => ?_
  have hs := run_storeCells_at (P := P) b off t (vrow m g).toList 0 (vrow n f) w hg (by simp [vrow_size]; omega) (fun v hv => by
    simp [vrow] at hv; obtain ⟨i, hi, rfl⟩ := hv; exact h1 i hi)
  have hm : (vrow m g).toList.length = m := by simp [vrow_size]
  rw [hm, Nat.add_zero, vrow_mid n off m f g hb] at hs
  have hrun : (storeVar ty ⟨b, off, none⟩ (.agg (vrow m g))).run P w = .ok () (w.setRow b (vrow n (over f off m g))) := by
    cases hq : P.info? ty with
    | none => simp [hq] at hi
    | some i =>
      have hs' : (vrow m g).size = i.size := by simp [hq] at hi; rw [vrow_size]; omega
      simp [storeVar, sizeOf, typeInfo, hq, Value.cells, hs', hs]
  unfold Oper.wp execOp
  simp only [ho, hx, hy, Instr.storeAt, Instr.sureAddr, Sem.run_bind, Sem.run_pure, Result.andThen_ok, hrun]
  exact hK _ _ h
/-- n integer cells of a kind -/
abbrev irow (kd : IntKind) (n : Nat) (a : Nat → Int) : Array Value := vrow n fun i => .int kd (a i)
/-- the first k of a, and zeros behind them -/
def upto (a : Nat → Int) (k : Nat) : Nat → Int := fun i => if i < k then a i else 0
theorem irow_ext (kd : IntKind) (n : Nat) (a b : Nat → Int) (h : ∀ i, i < n → a i = b i) : irow kd n a = irow kd n b := vrow_ext _ _ _ fun i hi => by rw [h i hi]
theorem upto_zero (kd : IntKind) (n : Nat) (a : Nat → Int) : irow kd n (upto a 0) = irow kd n (fun _ => 0) := irow_ext _ _ _ _ fun i _ => by simp [upto]
theorem upto_full (kd : IntKind) (n : Nat) (a : Nat → Int) : irow kd n (upto a n) = irow kd n a := irow_ext _ _ _ _ fun i hi => by simp [upto, hi]
theorem upto_over (kd : IntKind) (n : Nat) (a : Nat → Int) (k m : Nat) : vrow n (over (fun i => .int kd (upto a k i)) k m (fun i => .int kd (a (k + i)))) = irow kd n (upto a (k + m)) := vrow_ext _ _ _ fun i _ => by
  unfold over upto
  by_cases h : k ≤ i ∧ i < k + m
  · rw [if_pos h, if_pos (by omega)]; show Value.int kd (a (k + (i - k))) = _; rw [show k + (i - k) = i by omega]
  · rw [if_neg h]
    by_cases h2 : i < k
    · dsimp only; rw [if_pos h2, if_pos (by omega)]
    · dsimp only; rw [if_neg h2, if_neg (by omega)]
/-- STORE of a whole row. -/
theorem wpList_storeall {P : Program} {ops : Array Oper} {rest : List Oper} {o : Oper} {a : Act} {w : World} {Q : Exit → Act → World → Prop} (hgd : o.guard = none) (ty : TypeId) (x y : Operand) (ho : o.op = .store ty x y)
    (b : Nat) (hx : a.eval x = .pointer (some ⟨b, 0, none⟩)) (n : Nat) (f g : Nat → Value) (hy : a.eval y = .agg (vrow n g)) (t : TypeId) (hi : (P.info? ty).map (·.size) = some n)
    (hg : w.heap[b]? = some (.cells (vrow n f) t)) (h1 : ∀ i, i < n → (g i).oneCell' = true)
    (h : wpList P ops Q rest (a.put o.dst undef) (w.setRow b (vrow n g))) : wpList P ops Q (o :: rest) a w :=
  wpList_storemid hgd ty x y ho b 0 hx n n f g hy t hi hg (by omega) h1 (by rw [vrow_over_all]; exact h)
/-- LOAD of a whole row. -/
theorem wpList_loadall {P : Program} {ops : Array Oper} {rest : List Oper} {o : Oper} {a : Act} {w : World} {Q : Exit → Act → World → Prop} (hgd : o.guard = none) (ty : TypeId) (x : Operand) (ho : o.op = .load ty x)
    (b : Nat) (hx : a.eval x = .pointer (some ⟨b, 0, none⟩)) (n : Nat) (f : Nat → Value) (t : TypeId) (d : TypeDesc) (hu : P.underlying ty = some d) (hd : d.isRow = true) (hi : (P.info? ty).map (·.size) = some n)
    (hg : w.heap[b]? = some (.cells (vrow n f) t))
    (h : wpList P ops Q rest (a.put o.dst (.agg (vrow n f))) w) : wpList P ops Q (o :: rest) a w :=
  wpList_loadmid hgd ty x ho b 0 hx n n f t d hu hd hi hg (by omega) (by simpa using h)
/-- THE RESULT out of a row. -/
theorem ret_row {P : Program} {fn : Func} {R : Ending → World → Prop} {a : Act} {w : World} {p : Tmp} {ty : TypeId} (hr : fn.results = #[.cell p ty]) (b : Nat) (n : Nat) (f : Nat → Value) (t : TypeId) (d : TypeDesc) (hu : P.underlying ty = some d) (hd : d.isRow = true) (hi : (P.info? ty).map (·.size) = some n)
    (hp : a.tmps.getD p undef = .pointer (some ⟨b, 0, none⟩)) (hdf : a.defers = []) (hg : w.heap[b]? = some (.cells (vrow n f) t)) (h : R (.returned (.agg (vrow n f))) w) : bodyPost P fn R .ret a w :=
  bodyPost_ret (results_cell_row hr _ _ b t _ (0, 0) d hp hg hu (by cases d <;> first | rfl | exact hd) (by rw [vrow_size]; exact hi)) hdf h
/-- A function that copies a row, at the head of its loop: j cells have been copied. -/
def Copying (kd : IntKind) (N : Nat) (T : TypeId) (a : Nat → Int) (j : Nat) (w wr : World) : Prop :=
  Below w.heap.size w wr ∧ w.heap.size + 3 ≤ wr.heap.size ∧ wr.heap[w.heap.size]? = some (.cells (irow kd N a) T) ∧ wr.heap[w.heap.size + 1]? = some (.cells (irow kd N fun _ => 0) T) ∧ wr.heap[w.heap.size + 1 + 1]? = some (.cells (irow kd N (upto a j)) T)
theorem Copying.start (kd : IntKind) (N : Nat) (T : TypeId) (a : Nat → Int) (w : World) :
    Copying kd N T a 0 w (((w.alloc (.cells (irow kd N a) T)).alloc (.cells (irow kd N fun _ => 0) T)).alloc (.cells (irow kd N fun _ => 0) T)) :=
  ⟨(((Below.refl _ _).alloc (Nat.le_refl _) _).alloc (by simp) _).alloc (by simp; omega) _, by simp,
   heap_past _ _ _ _ (by simp; omega) (heap_past _ _ _ _ (by simp) (heap_at _ _ _ rfl)), heap_past _ _ _ _ (by simp) (heap_at _ _ _ (by simp)), by rw [upto_zero]; exact heap_at _ _ _ (by simp)⟩
theorem Copying.step {kd : IntKind} {N : Nat} {T : TypeId} {a : Nat → Int} {j m : Nat} {w wr w1 : World} (h : Copying kd N T a j w wr) (hb1 : Below wr.heap.size wr w1) :
    Copying kd N T a (j + m) w (w1.setRow (w.heap.size + 1 + 1) (vrow N (over (fun i => .int kd (upto a j i)) j m (fun i => .int kd (a (j + i)))))) := by
  obtain ⟨hB, hS, h0, h1, h2⟩ := h
  have hs := hb1.size
  refine ⟨Below_setRow (hB.trans (hb1.mono (by omega))) (by omega) _, by simp; omega, row_set' (by omega) (row_below hb1 (by omega) h0) _, row_set' (by omega) (row_below hb1 (by omega) h1) _, ?_⟩
  rw [upto_over]
  exact row_set (row_below hb1 (by omega) h2) _
/-- LOAD of one cell. -/
theorem wpList_load1 {P : Program} {ops : Array Oper} {rest : List Oper} {o : Oper} {a : Act} {w : World} {Q : Exit → Act → World → Prop} (hgd : o.guard = none) (ty : TypeId) (x : Operand) (ho : o.op = .load ty x)
    (b off : Nat) (hx : a.eval x = .pointer (some ⟨b, off, none⟩)) (n : Nat) (f : Nat → Value) (t : TypeId) (d : TypeDesc) (hu : P.underlying ty = some d) (hd : d.isRow = false)
    (hg : w.heap[b]? = some (.cells (vrow n f) t)) (hb : off < n)
    (h : wpList P ops Q rest (a.put o.dst (f off)) w) : wpList P ops Q (o :: rest) a w := by
  refine wpList_plain hgd fun K hK => ?_
  have hc := cell_row hg hb
  have hagg : (isAgg ty).run P w = .ok false w := by
    unfold isAgg
    rw [Sem.run_bind, run_underlying hu w]
    cases d <;> simp_all [TypeDesc.isRow]
  unfold Oper.wp execOp
  simp only [ho, hx, Instr.loadAt, Instr.sureAddr, Sem.run_bind, Sem.run_pure, Result.andThen_ok, loadVar, hagg, Bool.false_eq_true, if_false, run_load, hc]
  exact hK _ _ h
/-- STORE of one cell. -/
theorem wpList_store1 {P : Program} {ops : Array Oper} {rest : List Oper} {o : Oper} {a : Act} {w : World} {Q : Exit → Act → World → Prop} (hgd : o.guard = none) (ty : TypeId) (x y : Operand) (ho : o.op = .store ty x y)
    (b off : Nat) (hx : a.eval x = .pointer (some ⟨b, off, none⟩)) (n : Nat) (f : Nat → Value) (v : Value) (hy : a.eval y = v) (t : TypeId) (hi : (P.info? ty).map (·.size) = some 1)
    (hg : w.heap[b]? = some (.cells (vrow n f) t)) (hb : off < n) (h1 : v.oneCell' = true)
    (h : wpList P ops Q rest (a.put o.dst undef) (w.setRow b (vrow n (over f off 1 fun _ => v)))) : wpList P ops Q (o :: rest) a w := by
  refine wpList_plain hgd fun K hK => ?_
  have hcs : v.cells = #[v] := by cases v <;> first | rfl | cases h1
  have hs := run_storeCells_at (P := P) b off t [v] 0 (vrow n f) w hg (by simp [vrow_size]; omega) (fun u hu => by simp at hu; rw [hu]; exact h1)
  have hm := vrow_mid n off 1 f (fun _ => v) (by omega)
  rw [show (vrow 1 fun _ => v).toList = [v] from rfl] at hm
  simp only [List.length_singleton, Nat.add_zero, hm] at hs
  have hrun : (storeVar ty ⟨b, off, none⟩ v).run P w = .ok () (w.setRow b (vrow n (over f off 1 fun _ => v))) := by
    cases hq : P.info? ty with
    | none => simp [hq] at hi
    | some i =>
      have hs' : i.size = 1 := by simpa [hq] using hi
      simp [storeVar, sizeOf, typeInfo, hq, hcs, hs', hs]
  unfold Oper.wp execOp
  simp only [ho, hx, hy, Instr.storeAt, Instr.sureAddr, Sem.run_bind, Sem.run_pure, Result.andThen_ok, hrun]
  exact hK _ _ h
theorem over_one (f : Nat → Value) (j : Nat) (g : Nat → Value) : over f j 1 (fun _ => g j) = over f j 1 (fun i => g (j + i)) := by
  funext i
  unfold over
  by_cases h : j ≤ i ∧ i < j + 1
  · rw [if_pos h, if_pos h]; obtain rfl : i = j := by omega
    simp
  · rw [if_neg h, if_neg h]
theorem Copying.step1 {kd : IntKind} {N : Nat} {T : TypeId} {a : Nat → Int} {j : Nat} {w wr : World} (h : Copying kd N T a j w wr) :
    Copying kd N T a (j + 1) w (wr.setRow (w.heap.size + 1 + 1) (vrow N (over (fun i => .int kd (upto a j i)) j 1 (fun _ => .int kd (a j))))) := by
  have h' := h.step (m := 1) (Below.refl _ _)
  rw [over_one _ j fun i => .int kd (a i)]
  exact h'
/-- The call's own rows, from block B on; below B the world is as it was. -/
def Own (B : Nat) (w0 w : World) (rows : List (Nat × Array Value × TypeId)) : Prop :=
  Below B w0 w ∧ B ≤ w.heap.size ∧ ∀ r ∈ rows, B ≤ r.1 ∧ r.1 < w.heap.size ∧ w.heap[r.1]? = some (.cells r.2.1 r.2.2)
theorem Own.start (w : World) : Own w.heap.size w w [] := ⟨Below.refl _ _, Nat.le_refl _, fun _ h => by cases h⟩
theorem Own.below {B : Nat} {w0 w : World} {rows : List (Nat × Array Value × TypeId)} (h : Own B w0 w rows) : Below B w0 w := h.1
theorem Own.get {B : Nat} {w0 w : World} {rows : List (Nat × Array Value × TypeId)} (h : Own B w0 w rows) {b : Nat} {cs : Array Value} {t : TypeId} (hm : (b, cs, t) ∈ rows) : w.heap[b]? = some (.cells cs t) := (h.2.2 _ hm).2.2
theorem Own.lt {B : Nat} {w0 w : World} {rows : List (Nat × Array Value × TypeId)} (h : Own B w0 w rows) {b : Nat} {cs : Array Value} {t : TypeId} (hm : (b, cs, t) ∈ rows) : b < w.heap.size := (h.2.2 _ hm).2.1
theorem Own.ge {B : Nat} {w0 w : World} {rows : List (Nat × Array Value × TypeId)} (h : Own B w0 w rows) {b : Nat} {cs : Array Value} {t : TypeId} (hm : (b, cs, t) ∈ rows) : B ≤ b := (h.2.2 _ hm).1
theorem Own.alloc {B : Nat} {w0 w : World} {rows : List (Nat × Array Value × TypeId)} (h : Own B w0 w rows) (cs : Array Value) (t : TypeId) (n : Nat) (hn : n = w.heap.size) : Own B w0 (w.alloc (.cells cs t)) ((n, cs, t) :: rows) := by
  subst hn
  refine ⟨h.1.alloc h.2.1 _, by simp; have := h.2.1; omega, fun r hr => ?_⟩
  rcases List.mem_cons.1 hr with rfl | hr
  · exact ⟨h.2.1, by simp, heap_at _ _ _ rfl⟩
  · obtain ⟨h1, h2, h3⟩ := h.2.2 r hr
    exact ⟨h1, by simp; omega, heap_past _ _ _ _ h2 h3⟩
theorem Own.drew {B : Nat} {w0 w : World} {rows : List (Nat × Array Value × TypeId)} (h : Own B w0 w rows) : Own B w0 w.drew rows := ⟨h.1.drew, h.2.1, h.2.2⟩
theorem Own.drewN {B : Nat} {w0 w : World} {rows : List (Nat × Array Value × TypeId)} (h : Own B w0 w rows) (n : Nat) : Own B w0 (w.drewN n) rows := ⟨below_drewN h.1 n, h.2.1, h.2.2⟩
theorem Own.call {B n : Nat} {w0 w w1 : World} {rows : List (Nat × Array Value × TypeId)} (h : Own B w0 w rows) (hb : Below n w w1) (hn : w.heap.size ≤ n) : Own B w0 w1 rows := by
  have hs := hb.size
  refine ⟨h.1.trans (hb.mono (by have := h.2.1; omega)), by have := h.2.1; omega, fun r hr => ?_⟩
  obtain ⟨h1, h2, h3⟩ := h.2.2 r hr
  exact ⟨h1, by omega, row_below hb (by omega) h3⟩
/-- A row is written. -/
def putRow (b : Nat) (cs : Array Value) (rows : List (Nat × Array Value × TypeId)) : List (Nat × Array Value × TypeId) := rows.map fun r => if r.1 = b then (r.1, cs, r.2.2) else r
theorem Own.set {B : Nat} {w0 w : World} {rows : List (Nat × Array Value × TypeId)} (h : Own B w0 w rows) (b : Nat) (hb : B ≤ b) (cs : Array Value) : Own B w0 (w.setRow b cs) (putRow b cs rows) := by
  refine ⟨Below_setRow h.1 hb cs, by simp; exact h.2.1, fun r hr => ?_⟩
  obtain ⟨q, hq, rfl⟩ := List.mem_map.1 hr
  obtain ⟨h1, h2, h3⟩ := h.2.2 q hq
  by_cases e : q.1 = b
  · rw [if_pos e]
    exact ⟨h1, by simp; exact h2, by subst e; exact row_set h3 cs⟩
  · rw [if_neg e]
    exact ⟨h1, by simp; exact h2, row_set' e h3 cs⟩
theorem Own.keep {B : Nat} {w0 w : World} {rows rows' : List (Nat × Array Value × TypeId)} (h : Own B w0 w rows) (hs : ∀ r ∈ rows', r ∈ rows) : Own B w0 w rows' := ⟨h.1, h.2.1, fun r hr => h.2.2 r (hs r hr)⟩
/-- A sheet's numbers. -/
structure Sh where
  wide : Int
  high : Int
  wet : Nat → Int
  dye : Nat → Int
  wax : Nat → Int
def Sh.at (s : Sh) (i : Nat) : Value := if i = 0 then .int .i8 s.wide else if i = 1 then .int .i8 s.high else if i < 66 then .int .i16 (s.wet (i - 2)) else if i < 258 then .int .i16 (s.dye (i - 66)) else .int .u8 (s.wax (i - 258))
abbrev Sh.row (s : Sh) : Array Value := vrow 266 s.at
theorem Sh.one (s : Sh) (i : Nat) : (s.at i).oneCell' = true := by unfold Sh.at; split; rfl; split; rfl; split; rfl; split <;> rfl
theorem Sh.at_wet (s : Sh) : vrow 64 (fun i => s.at (2 + i)) = irow .i16 64 s.wet := vrow_ext _ _ _ fun i hi => by
  unfold Sh.at; rw [if_neg (by omega), if_neg (by omega), if_pos (by omega), show 2 + i - 2 = i by omega]
theorem Sh.at_dye (s : Sh) : vrow 192 (fun i => s.at (66 + i)) = irow .i16 192 s.dye := vrow_ext _ _ _ fun i hi => by
  unfold Sh.at; rw [if_neg (by omega), if_neg (by omega), if_neg (by omega), if_pos (by omega), show 66 + i - 66 = i by omega]
theorem Sh.at_wax (s : Sh) : vrow 8 (fun i => s.at (258 + i)) = irow .u8 8 s.wax := vrow_ext _ _ _ fun i hi => by
  unfold Sh.at; rw [if_neg (by omega), if_neg (by omega), if_neg (by omega), if_neg (by omega), show 258 + i - 258 = i by omega]
def Sh.zero : Sh := ⟨0, 0, fun _ => 0, fun _ => 0, fun _ => 0⟩
theorem row_lt {w : World} {g : Nat} {x : Obj} (h : w.heap[g]? = some x) : g < w.heap.size := by
  by_cases c : g < w.heap.size
  · exact c
  · rw [Array.getElem?_eq_none (by omega)] at h; cases h
theorem row_call {n : Nat} {w w1 : World} (hb : Below n w w1) (hn : w.heap.size ≤ n) {g : Nat} {x : Obj} (hx : w.heap[g]? = some x) : w1.heap[g]? = some x := row_below hb (by have := row_lt hx; omega) hx
theorem below_call {n : Nat} {w W w1 : World} (h : Below w.heap.size w W) (hb : Below n W w1) (hn : W.heap.size ≤ n) : Below w.heap.size w w1 := h.trans (hb.mono (by have := h.size; omega))
theorem run_isAgg_row {P : Program} (w : World) (ty : TypeId) (d : TypeDesc) (hu : P.underlying ty = some d) : (isAgg ty).run P w = .ok d.isRow w := by
  unfold isAgg
  rw [Sem.run_bind, run_underlying hu w]
  cases d <;> simp [TypeDesc.isRow]
/-- IN A REGION THAT DRAWS ITS ORDER: a load of m cells. -/
theorem wpStill_loadmid {P : Program} {ops : Array Oper} {w : World} {Q : Act → Prop} {rest : List Oper} {o : Oper} {a : Act} (hgd : o.guard = none) (ty : TypeId) (x : Operand) (ho : o.op = .load ty x)
    (b off : Nat) (hx : a.eval x = .pointer (some ⟨b, off, none⟩)) (n m : Nat) (f : Nat → Value) (t : TypeId) (d : TypeDesc) (hu : P.underlying ty = some d) (hd : d.isRow = true) (hi : (P.info? ty).map (·.size) = some m)
    (hg : w.heap[b]? = some (.cells (vrow n f) t)) (hb : off + m ≤ n)
    (h : wpStill P ops w Q rest (a.put o.dst (.agg (vrow m fun i => f (off + i))))) : wpStill P ops w Q (o :: rest) a := by
  refine wpStill_step fun K hK => ?_
  have hr := run_loadAt_mid (P := P) w b off ty ((List.range m).map fun i => f (off + i)) d (fun j v hj => by
    have hjm : j < m := by
      by_cases c : j < m
      · exact c
      · rw [List.getElem?_eq_none (by simp; omega)] at hj; cases hj
    rw [cell_row hg (by omega)]
    simp [hjm] at hj; rw [hj]) hu hd (by simpa using hi)
  simp only [Region.wanted, hgd, if_true, Oper.still, execOp, ho, hx, Sem.run_bind, hr, Result.andThen_ok, Sem.run_pure, Oper.stillUpon]
  exact ⟨trivial, hK _ h⟩
/-- IN A REGION THAT DRAWS ITS ORDER: a load of one cell. -/
theorem wpStill_load1 {P : Program} {ops : Array Oper} {w : World} {Q : Act → Prop} {rest : List Oper} {o : Oper} {a : Act} (hgd : o.guard = none) (ty : TypeId) (x : Operand) (ho : o.op = .load ty x)
    (b off : Nat) (hx : a.eval x = .pointer (some ⟨b, off, none⟩)) (n : Nat) (f : Nat → Value) (t : TypeId) (d : TypeDesc) (hu : P.underlying ty = some d) (hd : d.isRow = false)
    (hg : w.heap[b]? = some (.cells (vrow n f) t)) (hb : off < n)
    (h : wpStill P ops w Q rest (a.put o.dst (f off))) : wpStill P ops w Q (o :: rest) a := by
  refine wpStill_step fun K hK => ?_
  have hc := cell_row hg hb
  have hr : (Instr.loadAt ty (.pointer (some ⟨b, off, none⟩))).run P w = .ok (f off) w := by
    simp only [Instr.loadAt, Instr.sureAddr, Sem.run_bind, Sem.run_pure, Result.andThen_ok, loadVar, run_isAgg_row w ty d hu, hd, Bool.false_eq_true, if_false, run_load, hc]
  simp only [Region.wanted, hgd, if_true, Oper.still, execOp, ho, hx, Sem.run_bind, hr, Result.andThen_ok, Sem.run_pure, Oper.stillUpon]
  exact ⟨trivial, hK _ h⟩
/-- Two boxed rows, at the head of a loop that compares them. -/
def Twin (n : Nat) (f : Nat → Value) (T : TypeId) (w wr : World) : Prop :=
  Below w.heap.size w wr ∧ wr.heap[w.heap.size]? = some (.cells (vrow n f) T) ∧ wr.heap[w.heap.size + 1]? = some (.cells (vrow n f) T)
theorem Twin.start (n : Nat) (f : Nat → Value) (T : TypeId) (w : World) : Twin n f T w ((w.alloc (.cells (vrow n f) T)).alloc (.cells (vrow n f) T)) :=
  ⟨((Below.refl _ _).alloc (Nat.le_refl _) _).alloc (by simp) _, heap_past _ _ _ _ (by simp) (heap_at _ _ _ rfl), heap_at _ _ _ (by simp)⟩
theorem Twin.drew {n : Nat} {f : Nat → Value} {T : TypeId} {w wr : World} (h : Twin n f T w wr) (k : Nat) : Twin n f T w (wr.drewN k) := ⟨below_drewN h.1 k, h.2.1, h.2.2⟩
theorem Twin.drew1 {n : Nat} {f : Nat → Value} {T : TypeId} {w wr : World} (h : Twin n f T w wr) : Twin n f T w wr.drew := ⟨h.1.drew, h.2.1, h.2.2⟩
theorem Twin.call {n k : Nat} {f : Nat → Value} {T : TypeId} {w wr w1 : World} (h : Twin n f T w wr) (hb : Below k wr w1) (hn : wr.heap.size ≤ k) : Twin n f T w w1 := ⟨below_call h.1 hb hn, row_call hb hn h.2.1, row_call hb hn h.2.2⟩
theorem Sh.at_0 (s : Sh) : s.at 0 = .int .i8 s.wide := rfl
theorem Sh.at_1 (s : Sh) : s.at 1 = .int .i8 s.high := rfl
end Go.Proofs.YtfhfiaphdgfmnaaDoor
namespace Go.Proofs.YtfhfiaphdgfmnaaDoor
open Go.RowKit
set_option linter.unusedVariables false
set_option linter.unusedSimpArgs false
/-- the goal is a list that begins with the operation of slot d -/
theorem wlAt (d : Nat) {P : Program} {ops : Array Oper} {Q : Exit → Act → World → Prop} {l : List Oper} {o : Oper} {a : Act} {w : World} (_ : o.dst = some d) (h : wpList P ops Q (o :: l) a w) : wpList P ops Q (o :: l) a w := h
/-- the goal is a list that begins with this operation -/
theorem wlOp (p : Op) {P : Program} {ops : Array Oper} {Q : Exit → Act → World → Prop} {l : List Oper} {o : Oper} {a : Act} {w : World} (_ : o.op = p) (h : wpList P ops Q (o :: l) a w) : wpList P ops Q (o :: l) a w := h
end Go.Proofs.YtfhfiaphdgfmnaaDoor
namespace Go.Proofs.YtfhfiaphdgfmnaaDoor
open Go.RowKit
/-- A composite literal. -/
theorem wpList_built {P : Program} {ops : Array Oper} {rest : List Oper} {o : Oper} {a : Act} {w : World} {Q : Exit → Act → World → Prop} (hg : o.guard = none) (t : TypeId) (parts : List (Nat × Operand)) (ho : o.op = .build t parts.toArray)
    (l : List (Nat × Value)) (hl : (parts.map fun p => (p.1, a.eval p.2)) = l) (cells : Array Value) (hc : P.built t l = some cells)
    (h : wpList P ops Q rest (a.put o.dst (.agg cells)) w) : wpList P ops Q (o :: rest) a w := by
  have e : ((parts.toArray.map fun (i, x) => (i, a.eval x)).toList) = l := by rw [← hl]; simp
  exact wpList_build hg t parts.toArray ho (by rw [e, hc]; rfl) (by rw [e, hc]; exact h)
/-- THE RESULTS: a row and a slot. -/
theorem ret_row2 {P : Program} {fn : Func} {R : Ending → World → Prop} {a : Act} {w : World} {p u : Tmp} {ty : TypeId} (hr : fn.results = #[.cell p ty, .tmp u]) (b : Nat) (n : Nat) (f : Nat → Value) (t : TypeId) (d : TypeDesc) (hu : P.underlying ty = some d) (hd : d.isRow = true) (hi : (P.info? ty).map (·.size) = some n) (v : Value)
    (hp : a.tmps.getD p undef = .pointer (some ⟨b, 0, none⟩)) (hv : a.tmps.getD u undef = v) (hdf : a.defers = []) (hg : w.heap[b]? = some (.cells (vrow n f) t)) (h : R (.returned (.tuple #[.agg (vrow n f), v])) w) : bodyPost P fn R .ret a w := by
  refine bodyPost_ret ?_ hdf h
  have hl := run_loadVar_row (P := P) w b t ty (vrow n f) (0, 0) d hg hu (by cases d <;> first | rfl | exact hd) (by rw [vrow_size]; exact hi)
  rw [results_cell_tmp hr, hp, hv]
  simp [asAddr, hl, Result.andThen]
/-- THE RESULTS: a row and two slots. -/
theorem ret_row3 {P : Program} {fn : Func} {R : Ending → World → Prop} {a : Act} {w : World} {p u q : Tmp} {ty : TypeId} (hr : fn.results = #[.cell p ty, .tmp u, .tmp q]) (b : Nat) (n : Nat) (f : Nat → Value) (t : TypeId) (d : TypeDesc) (hu : P.underlying ty = some d) (hd : d.isRow = true) (hi : (P.info? ty).map (·.size) = some n) (v v' : Value)
    (hp : a.tmps.getD p undef = .pointer (some ⟨b, 0, none⟩)) (hv : a.tmps.getD u undef = v) (hv' : a.tmps.getD q undef = v') (hdf : a.defers = []) (hg : w.heap[b]? = some (.cells (vrow n f) t)) (h : R (.returned (.tuple #[.agg (vrow n f), v, v'])) w) : bodyPost P fn R .ret a w := by
  refine bodyPost_ret ?_ hdf h
  have hl := run_loadVar_row (P := P) w b t ty (vrow n f) (0, 0) d hg hu (by cases d <;> first | rfl | exact hd) (by rw [vrow_size]; exact hi)
  have hp' : a.tmps[p]?.getD undef = .pointer (some ⟨b, 0, none⟩) := by simpa using hp
  have hv1 : a.tmps[u]?.getD undef = v := by simpa using hv
  have hv2 : a.tmps[q]?.getD undef = v' := by simpa using hv'
  simp [results, hr, hp', hv1, hv2, asAddr, hl, Result.andThen]
/-- a sheet may have so many columns and rows -/
def sizeB (a c : Int) : Bool := decide (1 ≤ a) && (decide (a ≤ 8) && (decide (1 ≤ c) && decide (c ≤ 8)))
theorem isSize_any (a c : Int) (w : World) : Calls Tryd.prog 103 #[.int .i64 a, .int .i64 c] w fun e w' => e = .returned (.bool (sizeB a c)) ∧ w = w' := by
  by_cases h1 : 1 ≤ a
  · by_cases h2 : a ≤ 8
    · by_cases h3 : 1 ≤ c
      · by_cases h4 : c ≤ 8
        all_goals
          go_enter Tryd.func103, Tryd.ntmps103
          go_wp2
          go_ret
          exact ⟨by simp [sizeB] <;> (first | omega | (intros; omega)), rfl⟩
      · go_enter Tryd.func103, Tryd.ntmps103
        go_wp2
        go_ret
        exact ⟨by simp [sizeB] <;> (first | omega | (intros; omega)), rfl⟩
    · go_enter Tryd.func103, Tryd.ntmps103
      go_wp2
      go_ret
      exact ⟨by simp [sizeB] <;> (first | omega | (intros; omega)), rfl⟩
  · go_enter Tryd.func103, Tryd.ntmps103
    go_wp2
    go_ret
    exact ⟨by simp [sizeB] <;> (first | omega | (intros; omega)), rfl⟩
theorem sizeB_yes {a c : Int} (h1 : 1 ≤ a) (h2 : a ≤ 8) (h3 : 1 ≤ c) (h4 : c ≤ 8) : sizeB a c = true := by simp [sizeB, h1, h2, h3, h4]
theorem sizeB_no {a c : Int} (h : a < 1 ∨ 8 < a ∨ c < 1 ∨ 8 < c) : sizeB a c = false := by
  simp only [sizeB, Bool.and_eq_false_iff, decide_eq_false_iff_not]
  omega
end Go.Proofs.YtfhfiaphdgfmnaaDoor
namespace Go.Proofs.YtfhfiaphdgfmnaaDoor
open Go.RowKit
theorem size_d3 : (Tryd.prog.info? 27).map (·.size) = some 3 := by kernel_rfl
theorem size_r8 : (Tryd.prog.info? 25).map (·.size) = some 8 := by kernel_rfl
theorem size_r64 : (Tryd.prog.info? 26).map (·.size) = some 64 := by kernel_rfl
theorem size_d24 : (Tryd.prog.info? 28).map (·.size) = some 24 := by kernel_rfl
theorem size_d192 : (Tryd.prog.info? 29).map (·.size) = some 192 := by kernel_rfl
theorem size_x8 : (Tryd.prog.info? 30).map (·.size) = some 8 := by kernel_rfl
theorem size_i16 : (Tryd.prog.info? 24).map (·.size) = some 1 := by kernel_rfl
theorem size_u8 : (Tryd.prog.info? 5).map (·.size) = some 1 := by kernel_rfl
theorem size_i8 : (Tryd.prog.info? 23).map (·.size) = some 1 := by kernel_rfl
set_option maxHeartbeats 400000 in
theorem toInt16A3_any (a : Nat → Int) (w : World) :
    Calls Tryd.prog 101 #[.agg (irow .i16 3 a)] w fun e w' => e = .returned (.agg (irow .i16 3 a)) ∧ Below w.heap.size w w' := by
  have zz : ∀ w, (zeroValue 27).run Tryd.prog w = .ok (.agg (irow .i16 3 fun _ => 0)) w := fun _ => by kernel_rfl
  go_enter Tryd.func101, Tryd.ntmps101
  go_wp2
  go_loopw [4] (fun i wr => ∃ k : Nat, k ≤ 3 ∧ i = .int .i64 k ∧ Copying .i16 3 27 a (k) w wr) (fun i _ => 3 - (intOf i).toNat)
  case atStart => exact ⟨0, by omega, rfl, Copying.start _ _ _ _ _⟩
  case round =>
    clear zz
    obtain ⟨k, hk, rfl, hI⟩ := hrel
    by_cases hlt : k < 3
    · have hS := hI.2.1; have HI := Go.Lib.hid hI
      clear hI hk
      go_wp2_with (first
        | (refine wpList_load1 rfl 24 (.tmp 11) rfl _ k rfl 3 (fun i => .int .i16 (a i)) 27 _ Tryd.underlying24 rfl HI.out.2.2.1 (by omega) ?_)
        | (refine wpList_store1 rfl 24 (.tmp 13) (.tmp 12) rfl _ k rfl 3 (fun i => .int .i16 (upto a k i)) (.int .i16 (a k)) rfl 27 size_i16 HI.out.2.2.2.2 (by omega) rfl ?_))
      go_roundw
      case rel =>
        refine ⟨k + 1, by omega, by go_num, ?_⟩
        exact HI.out.step1
      case measure => simp [intOf]; omega
    · obtain rfl : k = 3 := by omega
      obtain ⟨hB, hS, h0, h1, h2⟩ := hI
      rw [upto_full] at h2
      have HB := Go.Lib.hid hB; have H1 := Go.Lib.hid h1; have H2 := Go.Lib.hid h2
      clear hB h0 h1 h2 hk
      go_wp2_with (first
        | (refine wpList_loadall rfl 27 (.tmp 3) rfl _ rfl 3 (fun i => .int .i16 (a i)) 27 _ Tryd.underlying27 rfl size_d3 H2.out ?_)
        | (refine wpList_storeall rfl 27 (.tmp 2) (.tmp 14) rfl _ rfl 3 (fun _ => .int .i16 0) (fun i => .int .i16 (a i)) rfl 27 size_d3 H1.out (fun _ _ => rfl) ?_))
      exact ret_row Tryd.results101 _ 3 (fun i => .int .i16 (a i)) 27 _ Tryd.underlying27 rfl size_d3 rfl rfl (row_set H1.out _) ⟨rfl, Below_setRow HB.out (by omega) _⟩
set_option maxHeartbeats 400000 in
theorem toInt16A8_any (a : Nat → Int) (w : World) :
    Calls Tryd.prog 78 #[.agg (irow .i16 8 a)] w fun e w' => e = .returned (.agg (irow .i16 8 a)) ∧ Below w.heap.size w w' := by
  have zz : ∀ w, (zeroValue 25).run Tryd.prog w = .ok (.agg (irow .i16 8 fun _ => 0)) w := fun _ => by kernel_rfl
  go_enter Tryd.func78, Tryd.ntmps78
  go_wp2
  go_loopw [4] (fun i wr => ∃ k : Nat, k ≤ 8 ∧ i = .int .i64 k ∧ Copying .i16 8 25 a (k) w wr) (fun i _ => 8 - (intOf i).toNat)
  case atStart => exact ⟨0, by omega, rfl, Copying.start _ _ _ _ _⟩
  case round =>
    clear zz
    obtain ⟨k, hk, rfl, hI⟩ := hrel
    by_cases hlt : k < 8
    · have hS := hI.2.1; have HI := Go.Lib.hid hI
      clear hI hk
      go_wp2_with (first
        | (refine wpList_load1 rfl 24 (.tmp 11) rfl _ k rfl 8 (fun i => .int .i16 (a i)) 25 _ Tryd.underlying24 rfl HI.out.2.2.1 (by omega) ?_)
        | (refine wpList_store1 rfl 24 (.tmp 13) (.tmp 12) rfl _ k rfl 8 (fun i => .int .i16 (upto a k i)) (.int .i16 (a k)) rfl 25 size_i16 HI.out.2.2.2.2 (by omega) rfl ?_))
      go_roundw
      case rel =>
        refine ⟨k + 1, by omega, by go_num, ?_⟩
        exact HI.out.step1
      case measure => simp [intOf]; omega
    · obtain rfl : k = 8 := by omega
      obtain ⟨hB, hS, h0, h1, h2⟩ := hI
      rw [upto_full] at h2
      have HB := Go.Lib.hid hB; have H1 := Go.Lib.hid h1; have H2 := Go.Lib.hid h2
      clear hB h0 h1 h2 hk
      go_wp2_with (first
        | (refine wpList_loadall rfl 25 (.tmp 3) rfl _ rfl 8 (fun i => .int .i16 (a i)) 25 _ Tryd.underlying25 rfl size_r8 H2.out ?_)
        | (refine wpList_storeall rfl 25 (.tmp 2) (.tmp 14) rfl _ rfl 8 (fun _ => .int .i16 0) (fun i => .int .i16 (a i)) rfl 25 size_r8 H1.out (fun _ _ => rfl) ?_))
      exact ret_row Tryd.results78 _ 8 (fun i => .int .i16 (a i)) 25 _ Tryd.underlying25 rfl size_r8 rfl rfl (row_set H1.out _) ⟨rfl, Below_setRow HB.out (by omega) _⟩
set_option maxHeartbeats 400000 in
theorem toByteA8_any (a : Nat → Int) (w : World) :
    Calls Tryd.prog 43 #[.agg (irow .u8 8 a)] w fun e w' => e = .returned (.agg (irow .u8 8 a)) ∧ Below w.heap.size w w' := by
  have zz : ∀ w, (zeroValue 30).run Tryd.prog w = .ok (.agg (irow .u8 8 fun _ => 0)) w := fun _ => by kernel_rfl
  go_enter Tryd.func43, Tryd.ntmps43
  go_wp2
  go_loopw [4] (fun i wr => ∃ k : Nat, k ≤ 8 ∧ i = .int .i64 k ∧ Copying .u8 8 30 a (k) w wr) (fun i _ => 8 - (intOf i).toNat)
  case atStart => exact ⟨0, by omega, rfl, Copying.start _ _ _ _ _⟩
  case round =>
    clear zz
    obtain ⟨k, hk, rfl, hI⟩ := hrel
    by_cases hlt : k < 8
    · have hS := hI.2.1; have HI := Go.Lib.hid hI
      clear hI hk
      go_wp2_with (first
        | (refine wpList_load1 rfl 5 (.tmp 11) rfl _ k rfl 8 (fun i => .int .u8 (a i)) 30 _ Tryd.underlying5 rfl HI.out.2.2.1 (by omega) ?_)
        | (refine wpList_store1 rfl 5 (.tmp 13) (.tmp 12) rfl _ k rfl 8 (fun i => .int .u8 (upto a k i)) (.int .u8 (a k)) rfl 30 size_u8 HI.out.2.2.2.2 (by omega) rfl ?_))
      go_roundw
      case rel =>
        refine ⟨k + 1, by omega, by go_num, ?_⟩
        exact HI.out.step1
      case measure => simp [intOf]; omega
    · obtain rfl : k = 8 := by omega
      obtain ⟨hB, hS, h0, h1, h2⟩ := hI
      rw [upto_full] at h2
      have HB := Go.Lib.hid hB; have H1 := Go.Lib.hid h1; have H2 := Go.Lib.hid h2
      clear hB h0 h1 h2 hk
      go_wp2_with (first
        | (refine wpList_loadall rfl 30 (.tmp 3) rfl _ rfl 8 (fun i => .int .u8 (a i)) 30 _ Tryd.underlying30 rfl size_x8 H2.out ?_)
        | (refine wpList_storeall rfl 30 (.tmp 2) (.tmp 14) rfl _ rfl 8 (fun _ => .int .u8 0) (fun i => .int .u8 (a i)) rfl 30 size_x8 H1.out (fun _ _ => rfl) ?_))
      exact ret_row Tryd.results43 _ 8 (fun i => .int .u8 (a i)) 30 _ Tryd.underlying30 rfl size_x8 rfl rfl (row_set H1.out _) ⟨rfl, Below_setRow HB.out (by omega) _⟩
set_option maxHeartbeats 400000 in
theorem toInt16A8A8_any (a : Nat → Int) (w : World) :
    Calls Tryd.prog 41 #[.agg (irow .i16 64 a)] w fun e w' => e = .returned (.agg (irow .i16 64 a)) ∧ Below w.heap.size w w' := by
  have zz : ∀ w, (zeroValue 26).run Tryd.prog w = .ok (.agg (irow .i16 64 fun _ => 0)) w := fun _ => by kernel_rfl
  go_enter Tryd.func41, Tryd.ntmps41
  go_wp2
  go_loopw [4] (fun i wr => ∃ k : Nat, k ≤ 8 ∧ i = .int .i64 k ∧ Copying .i16 64 26 a (k * 8) w wr) (fun i _ => 8 - (intOf i).toNat)
  case atStart => exact ⟨0, by omega, rfl, Copying.start _ _ _ _ _⟩
  case round =>
    clear zz
    obtain ⟨k, hk, rfl, hI⟩ := hrel
    by_cases hlt : k < 8
    · have hS := hI.2.1; have HI := Go.Lib.hid hI
      clear hI hk
      go_wp2_with (first
        | (refine wpList_loadmid rfl 25 (.tmp 11) rfl _ (k * 8) rfl 64 8 (fun i => .int .i16 (a i)) 26 _ Tryd.underlying25 rfl size_r8 HI.out.2.2.1 (by omega) ?_)
        | (go_at_call 78; refine (toInt16A8_any _ _).mono ?_; rintro e w1 ⟨rfl, hb1⟩; have HB1 := Go.Lib.hid hb1; clear hb1)
        | (refine wpList_storemid rfl 25 (.tmp 14) (.tmp 13) rfl _ (k * 8) rfl 64 8 (fun i => .int .i16 (upto a (k * 8) i)) (fun i => .int .i16 (a (k * 8 + i))) rfl 26 size_r8 (row_below HB1.out (by omega) HI.out.2.2.2.2) (by omega) (fun _ _ => rfl) ?_))
      go_roundw
      case rel =>
        refine ⟨k + 1, by omega, by go_num, ?_⟩
        rw [show (k + 1) * 8 = k * 8 + 8 by omega]
        exact HI.out.step HB1.out
      case measure => simp [intOf]; omega
    · obtain rfl : k = 8 := by omega
      obtain ⟨hB, hS, h0, h1, h2⟩ := hI
      rw [show 8 * 8 = 64 from rfl, upto_full] at h2
      have HB := Go.Lib.hid hB; have H1 := Go.Lib.hid h1; have H2 := Go.Lib.hid h2
      clear hB h0 h1 h2 hk
      go_wp2_with (first
        | (refine wpList_loadall rfl 26 (.tmp 3) rfl _ rfl 64 (fun i => .int .i16 (a i)) 26 _ Tryd.underlying26 rfl size_r64 H2.out ?_)
        | (refine wpList_storeall rfl 26 (.tmp 2) (.tmp 15) rfl _ rfl 64 (fun _ => .int .i16 0) (fun i => .int .i16 (a i)) rfl 26 size_r64 H1.out (fun _ _ => rfl) ?_))
      exact ret_row Tryd.results41 _ 64 (fun i => .int .i16 (a i)) 26 _ Tryd.underlying26 rfl size_r64 rfl rfl (row_set H1.out _) ⟨rfl, Below_setRow HB.out (by omega) _⟩
set_option maxHeartbeats 400000 in
theorem toInt16A3A8_any (a : Nat → Int) (w : World) :
    Calls Tryd.prog 79 #[.agg (irow .i16 24 a)] w fun e w' => e = .returned (.agg (irow .i16 24 a)) ∧ Below w.heap.size w w' := by
  have zz : ∀ w, (zeroValue 28).run Tryd.prog w = .ok (.agg (irow .i16 24 fun _ => 0)) w := fun _ => by kernel_rfl
  go_enter Tryd.func79, Tryd.ntmps79
  go_wp2
  go_loopw [4] (fun i wr => ∃ k : Nat, k ≤ 8 ∧ i = .int .i64 k ∧ Copying .i16 24 28 a (k * 3) w wr) (fun i _ => 8 - (intOf i).toNat)
  case atStart => exact ⟨0, by omega, rfl, Copying.start _ _ _ _ _⟩
  case round =>
    clear zz
    obtain ⟨k, hk, rfl, hI⟩ := hrel
    by_cases hlt : k < 8
    · have hS := hI.2.1; have HI := Go.Lib.hid hI
      clear hI hk
      go_wp2_with (first
        | (refine wpList_loadmid rfl 27 (.tmp 11) rfl _ (k * 3) rfl 24 3 (fun i => .int .i16 (a i)) 28 _ Tryd.underlying27 rfl size_d3 HI.out.2.2.1 (by omega) ?_)
        | (go_at_call 101; refine (toInt16A3_any _ _).mono ?_; rintro e w1 ⟨rfl, hb1⟩; have HB1 := Go.Lib.hid hb1; clear hb1)
        | (refine wpList_storemid rfl 27 (.tmp 14) (.tmp 13) rfl _ (k * 3) rfl 24 3 (fun i => .int .i16 (upto a (k * 3) i)) (fun i => .int .i16 (a (k * 3 + i))) rfl 28 size_d3 (row_below HB1.out (by omega) HI.out.2.2.2.2) (by omega) (fun _ _ => rfl) ?_))
      go_roundw
      case rel =>
        refine ⟨k + 1, by omega, by go_num, ?_⟩
        rw [show (k + 1) * 3 = k * 3 + 3 by omega]
        exact HI.out.step HB1.out
      case measure => simp [intOf]; omega
    · obtain rfl : k = 8 := by omega
      obtain ⟨hB, hS, h0, h1, h2⟩ := hI
      rw [show 8 * 3 = 24 from rfl, upto_full] at h2
      have HB := Go.Lib.hid hB; have H1 := Go.Lib.hid h1; have H2 := Go.Lib.hid h2
      clear hB h0 h1 h2 hk
      go_wp2_with (first
        | (refine wpList_loadall rfl 28 (.tmp 3) rfl _ rfl 24 (fun i => .int .i16 (a i)) 28 _ Tryd.underlying28 rfl size_d24 H2.out ?_)
        | (refine wpList_storeall rfl 28 (.tmp 2) (.tmp 15) rfl _ rfl 24 (fun _ => .int .i16 0) (fun i => .int .i16 (a i)) rfl 28 size_d24 H1.out (fun _ _ => rfl) ?_))
      exact ret_row Tryd.results79 _ 24 (fun i => .int .i16 (a i)) 28 _ Tryd.underlying28 rfl size_d24 rfl rfl (row_set H1.out _) ⟨rfl, Below_setRow HB.out (by omega) _⟩
set_option maxHeartbeats 400000 in
theorem toInt16A3A8A8_any (a : Nat → Int) (w : World) :
    Calls Tryd.prog 42 #[.agg (irow .i16 192 a)] w fun e w' => e = .returned (.agg (irow .i16 192 a)) ∧ Below w.heap.size w w' := by
  have zz : ∀ w, (zeroValue 29).run Tryd.prog w = .ok (.agg (irow .i16 192 fun _ => 0)) w := fun _ => by kernel_rfl
  go_enter Tryd.func42, Tryd.ntmps42
  go_wp2
  go_loopw [4] (fun i wr => ∃ k : Nat, k ≤ 8 ∧ i = .int .i64 k ∧ Copying .i16 192 29 a (k * 24) w wr) (fun i _ => 8 - (intOf i).toNat)
  case atStart => exact ⟨0, by omega, rfl, Copying.start _ _ _ _ _⟩
  case round =>
    clear zz
    obtain ⟨k, hk, rfl, hI⟩ := hrel
    by_cases hlt : k < 8
    · have hS := hI.2.1; have HI := Go.Lib.hid hI
      clear hI hk
      go_wp2_with (first
        | (refine wpList_loadmid rfl 28 (.tmp 11) rfl _ (k * 24) rfl 192 24 (fun i => .int .i16 (a i)) 29 _ Tryd.underlying28 rfl size_d24 HI.out.2.2.1 (by omega) ?_)
        | (go_at_call 79; refine (toInt16A3A8_any _ _).mono ?_; rintro e w1 ⟨rfl, hb1⟩; have HB1 := Go.Lib.hid hb1; clear hb1)
        | (refine wpList_storemid rfl 28 (.tmp 14) (.tmp 13) rfl _ (k * 24) rfl 192 24 (fun i => .int .i16 (upto a (k * 24) i)) (fun i => .int .i16 (a (k * 24 + i))) rfl 29 size_d24 (row_below HB1.out (by omega) HI.out.2.2.2.2) (by omega) (fun _ _ => rfl) ?_))
      go_roundw
      case rel =>
        refine ⟨k + 1, by omega, by go_num, ?_⟩
        rw [show (k + 1) * 24 = k * 24 + 24 by omega]
        exact HI.out.step HB1.out
      case measure => simp [intOf]; omega
    · obtain rfl : k = 8 := by omega
      obtain ⟨hB, hS, h0, h1, h2⟩ := hI
      rw [show 8 * 24 = 192 from rfl, upto_full] at h2
      have HB := Go.Lib.hid hB; have H1 := Go.Lib.hid h1; have H2 := Go.Lib.hid h2
      clear hB h0 h1 h2 hk
      go_wp2_with (first
        | (refine wpList_loadall rfl 29 (.tmp 3) rfl _ rfl 192 (fun i => .int .i16 (a i)) 29 _ Tryd.underlying29 rfl size_d192 H2.out ?_)
        | (refine wpList_storeall rfl 29 (.tmp 2) (.tmp 15) rfl _ rfl 192 (fun _ => .int .i16 0) (fun i => .int .i16 (a i)) rfl 29 size_d192 H1.out (fun _ _ => rfl) ?_))
      exact ret_row Tryd.results42 _ 192 (fun i => .int .i16 (a i)) 29 _ Tryd.underlying29 rfl size_d192 rfl rfl (row_set H1.out _) ⟨rfl, Below_setRow HB.out (by omega) _⟩
end Go.Proofs.YtfhfiaphdgfmnaaDoor
namespace Go.Proofs.YtfhfiaphdgfmnaaDoor
open Go.RowKit
theorem size_sheet : (Tryd.prog.info? 39).map (·.size) = some 266 := by kernel_rfl
theorem size_lsheet : (Tryd.prog.info? 32).map (·.size) = some 266 := by kernel_rfl
theorem zero_sheet : ∀ w, (zeroValue 39).run Tryd.prog w = .ok (.agg Sh.zero.row) w := fun _ => by kernel_rfl
def Sh.f1 (s : Sh) := over Sh.zero.at 0 1 fun _ => s.at 0
def Sh.f2 (s : Sh) := over s.f1 1 1 fun _ => s.at 1
def Sh.f3 (s : Sh) := over s.f2 2 64 fun i => .int .i16 (s.wet i)
def Sh.f4 (s : Sh) := over s.f3 66 192 fun i => .int .i16 (s.dye i)
def Sh.f5 (s : Sh) := over s.f4 258 8 fun i => .int .u8 (s.wax i)
theorem Sh.f5_row (s : Sh) : vrow 266 s.f5 = s.row := vrow_ext _ _ _ fun i hi => by
  simp only [Sh.f5, Sh.f4, Sh.f3, Sh.f2, Sh.f1, over, Sh.at]
  by_cases h0 : i = 0
  · subst h0; simp
  · by_cases h1 : i = 1
    · subst h1; simp
    · by_cases h2 : i < 66
      · rw [if_neg (by omega), if_neg (by omega), if_pos (by omega), if_neg h0, if_neg h1, if_pos h2]
      · by_cases h3 : i < 258
        · rw [if_neg (by omega), if_pos (by omega), if_neg h0, if_neg h1, if_neg h2, if_pos h3]
        · rw [if_pos (by omega), if_neg h0, if_neg h1, if_neg h2, if_neg h3]
theorem Sh.f5_one (s : Sh) (i : Nat) : i < 266 → (s.f5 i).oneCell' = true := by
  intro hi
  have h := vrow_get 266 s.f5 i hi
  rw [s.f5_row, vrow_get _ _ _ hi] at h
  rw [← Option.some.inj h]; exact s.one i
set_option maxHeartbeats 1000000 in
theorem toSheet_any (s : Sh) (w : World) :
    Calls Tryd.prog 14 #[.agg s.row] w fun e w' => e = .returned (.agg s.row) ∧ Below w.heap.size w w' := by
  have zz := zero_sheet
  have P_0 : Hid ((((w.alloc (.cells (vrow 266 s.at) 32)).alloc (.cells (vrow 266 Sh.zero.at) 39)).alloc (.cells (vrow 266 Sh.zero.at) 39)).heap[(w.heap.size)]? = some (.cells (vrow 266 s.at) 32)) := heap_past _ _ _ _ (by simp <;> omega) (heap_past _ _ _ _ (by simp <;> omega) (heap_at _ _ _ (by simp)))
  have R_0 : Hid ((((w.alloc (.cells (vrow 266 s.at) 32)).alloc (.cells (vrow 266 Sh.zero.at) 39)).alloc (.cells (vrow 266 Sh.zero.at) 39)).heap[(w.heap.size + 1)]? = some (.cells (vrow 266 Sh.zero.at) 39)) := heap_past _ _ _ _ (by simp <;> omega) (heap_at _ _ _ (by simp))
  have V_0 : Hid ((((w.alloc (.cells (vrow 266 s.at) 32)).alloc (.cells (vrow 266 Sh.zero.at) 39)).alloc (.cells (vrow 266 Sh.zero.at) 39)).heap[(w.heap.size + 1 + 1)]? = some (.cells (vrow 266 Sh.zero.at) 39)) := heap_at _ _ _ (by simp)
  have B_0 : Hid (Below w.heap.size w (((w.alloc (.cells (vrow 266 s.at) 32)).alloc (.cells (vrow 266 Sh.zero.at) 39)).alloc (.cells (vrow 266 Sh.zero.at) 39))) := ((((Below.refl w.heap.size w).alloc (by simp <;> omega) _).alloc (by simp <;> omega) _).alloc (by simp <;> omega) _)
  go_enter Tryd.func14, Tryd.ntmps14
  go_wp2_with (first
    | (refine wpList_load1 rfl 23 (.tmp 4) rfl _ 0 rfl 266 s.at 32 _ Tryd.underlying23 rfl P_0.out (by omega) ?_)
    | (refine wpList_store1 rfl 23 (.tmp 6) (.tmp 5) rfl _ 0 rfl 266 Sh.zero.at (s.at 0) rfl 39 size_i8 V_0.out (by omega) (s.one _) ?_; change wpList _ _ _ _ _ (World.setRow _ _ (vrow 266 s.f1)); have P_1 := Go.Lib.hid (row_set' (k := (w.heap.size)) (g := (w.heap.size + 1 + 1)) (by omega) P_0.out (vrow 266 s.f1)); have R_1 := Go.Lib.hid (row_set' (k := (w.heap.size + 1)) (g := (w.heap.size + 1 + 1)) (by omega) R_0.out (vrow 266 s.f1)); have V_1 := Go.Lib.hid (row_set V_0.out (vrow 266 s.f1)); have B_1 := Go.Lib.hid (Below_setRow B_0.out (g := (w.heap.size + 1 + 1)) (by omega) (vrow 266 s.f1)); clear B_0 P_0 R_0 V_0)
    | (refine wpList_load1 rfl 23 (.tmp 7) rfl _ 1 rfl 266 s.at 32 _ Tryd.underlying23 rfl P_1.out (by omega) ?_)
    | (refine wpList_store1 rfl 23 (.tmp 9) (.tmp 8) rfl _ 1 rfl 266 s.f1 (s.at 1) rfl 39 size_i8 V_1.out (by omega) (s.one _) ?_; change wpList _ _ _ _ _ (World.setRow _ _ (vrow 266 s.f2)); have P_2 := Go.Lib.hid (row_set' (k := (w.heap.size)) (g := (w.heap.size + 1 + 1)) (by omega) P_1.out (vrow 266 s.f2)); have R_2 := Go.Lib.hid (row_set' (k := (w.heap.size + 1)) (g := (w.heap.size + 1 + 1)) (by omega) R_1.out (vrow 266 s.f2)); have V_2 := Go.Lib.hid (row_set V_1.out (vrow 266 s.f2)); have B_2 := Go.Lib.hid (Below_setRow B_1.out (g := (w.heap.size + 1 + 1)) (by omega) (vrow 266 s.f2)); clear B_1 P_1 R_1 V_1)
    | (refine wpList_loadmid rfl 26 (.tmp 10) rfl _ 2 rfl 266 64 s.at 32 _ Tryd.underlying26 rfl size_r64 P_2.out (by omega) ?_; rw [Sh.at_wet])
    | (go_at_call 41; refine (toInt16A8A8_any _ _).mono ?_; rintro e w3 ⟨rfl, hb⟩; have P_3 := Go.Lib.hid (row_call hb (by simp) P_2.out); have R_3 := Go.Lib.hid (row_call hb (by simp) R_2.out); have V_3 := Go.Lib.hid (row_call hb (by simp) V_2.out); have B_3 := Go.Lib.hid (below_call B_2.out hb (by simp)); clear hb B_2 P_2 R_2 V_2)
    | (refine wpList_storemid rfl 26 (.tmp 13) (.tmp 12) rfl _ 2 rfl 266 64 s.f2 (fun i => .int .i16 (s.wet i)) rfl 39 size_r64 V_3.out (by omega) (fun _ _ => rfl) ?_; change wpList _ _ _ _ _ (World.setRow _ _ (vrow 266 s.f3)); have P_4 := Go.Lib.hid (row_set' (k := (w.heap.size)) (g := (w.heap.size + 1 + 1)) (by omega) P_3.out (vrow 266 s.f3)); have R_4 := Go.Lib.hid (row_set' (k := (w.heap.size + 1)) (g := (w.heap.size + 1 + 1)) (by omega) R_3.out (vrow 266 s.f3)); have V_4 := Go.Lib.hid (row_set V_3.out (vrow 266 s.f3)); have B_4 := Go.Lib.hid (Below_setRow B_3.out (g := (w.heap.size + 1 + 1)) (by omega) (vrow 266 s.f3)); clear B_3 P_3 R_3 V_3)
    | (refine wpList_loadmid rfl 29 (.tmp 14) rfl _ 66 rfl 266 192 s.at 32 _ Tryd.underlying29 rfl size_d192 P_4.out (by omega) ?_; rw [Sh.at_dye])
    | (go_at_call 42; refine (toInt16A3A8A8_any _ _).mono ?_; rintro e w5 ⟨rfl, hb⟩; have P_5 := Go.Lib.hid (row_call hb (by simp) P_4.out); have R_5 := Go.Lib.hid (row_call hb (by simp) R_4.out); have V_5 := Go.Lib.hid (row_call hb (by simp) V_4.out); have B_5 := Go.Lib.hid (below_call B_4.out hb (by simp)); clear hb B_4 P_4 R_4 V_4)
    | (refine wpList_storemid rfl 29 (.tmp 17) (.tmp 16) rfl _ 66 rfl 266 192 s.f3 (fun i => .int .i16 (s.dye i)) rfl 39 size_d192 V_5.out (by omega) (fun _ _ => rfl) ?_; change wpList _ _ _ _ _ (World.setRow _ _ (vrow 266 s.f4)); have P_6 := Go.Lib.hid (row_set' (k := (w.heap.size)) (g := (w.heap.size + 1 + 1)) (by omega) P_5.out (vrow 266 s.f4)); have R_6 := Go.Lib.hid (row_set' (k := (w.heap.size + 1)) (g := (w.heap.size + 1 + 1)) (by omega) R_5.out (vrow 266 s.f4)); have V_6 := Go.Lib.hid (row_set V_5.out (vrow 266 s.f4)); have B_6 := Go.Lib.hid (Below_setRow B_5.out (g := (w.heap.size + 1 + 1)) (by omega) (vrow 266 s.f4)); clear B_5 P_5 R_5 V_5)
    | (refine wpList_loadmid rfl 30 (.tmp 18) rfl _ 258 rfl 266 8 s.at 32 _ Tryd.underlying30 rfl size_x8 P_6.out (by omega) ?_; rw [Sh.at_wax])
    | (go_at_call 43; refine (toByteA8_any _ _).mono ?_; rintro e w7 ⟨rfl, hb⟩; have P_7 := Go.Lib.hid (row_call hb (by simp) P_6.out); have R_7 := Go.Lib.hid (row_call hb (by simp) R_6.out); have V_7 := Go.Lib.hid (row_call hb (by simp) V_6.out); have B_7 := Go.Lib.hid (below_call B_6.out hb (by simp)); clear hb B_6 P_6 R_6 V_6)
    | (refine wpList_storemid rfl 30 (.tmp 21) (.tmp 20) rfl _ 258 rfl 266 8 s.f4 (fun i => .int .u8 (s.wax i)) rfl 39 size_x8 V_7.out (by omega) (fun _ _ => rfl) ?_; change wpList _ _ _ _ _ (World.setRow _ _ (vrow 266 s.f5)); have P_8 := Go.Lib.hid (row_set' (k := (w.heap.size)) (g := (w.heap.size + 1 + 1)) (by omega) P_7.out (vrow 266 s.f5)); have R_8 := Go.Lib.hid (row_set' (k := (w.heap.size + 1)) (g := (w.heap.size + 1 + 1)) (by omega) R_7.out (vrow 266 s.f5)); have V_8 := Go.Lib.hid (row_set V_7.out (vrow 266 s.f5)); have B_8 := Go.Lib.hid (Below_setRow B_7.out (g := (w.heap.size + 1 + 1)) (by omega) (vrow 266 s.f5)); clear B_7 P_7 R_7 V_7)
    | (refine wpList_loadall rfl 39 (.tmp 3) rfl _ rfl 266 s.f5 39 _ Tryd.underlying39 rfl size_sheet V_8.out ?_)
    | (refine wpList_storeall rfl 39 (.tmp 2) (.tmp 22) rfl _ rfl 266 Sh.zero.at s.f5 rfl 39 size_sheet R_8.out (fun i hi => by have := s.f5_one i; exact this hi) ?_; have P_9 := Go.Lib.hid (row_set' (k := (w.heap.size)) (g := (w.heap.size + 1)) (by omega) P_8.out (vrow 266 s.f5)); have R_9 := Go.Lib.hid (row_set R_8.out (vrow 266 s.f5)); have V_9 := Go.Lib.hid (row_set' (k := (w.heap.size + 1 + 1)) (g := (w.heap.size + 1)) (by omega) V_8.out (vrow 266 s.f5)); have B_9 := Go.Lib.hid (Below_setRow B_8.out (g := (w.heap.size + 1)) (by omega) (vrow 266 s.f5)); clear B_8 P_8 R_8 V_8))
  refine ret_row Tryd.results14 _ 266 s.f5 39 _ Tryd.underlying39 rfl size_sheet rfl rfl R_9.out ?_
  exact ⟨by rw [s.f5_row], B_9.out⟩
end Go.Proofs.YtfhfiaphdgfmnaaDoor
namespace Go.Proofs.YtfhfiaphdgfmnaaDoor
open Go.RowKit
/-- A world that is W below n. -/
def Ex (n : Nat) (W : World) := { u : World // Below n W u }
instance (n : Nat) (W : World) : Nonempty (Ex n W) := ⟨⟨W, Below.refl _ _⟩⟩
/-- The class of a region that only reads and calls. -/
abbrev Cls (n : Nat) (W : World) : World → Prop := fun w' => ∃ u : Ex n W, w' = u.1
theorem cls_drew (n : Nat) (W : World) : Cls n W { W with drawn := W.drawn + 1 } := ⟨⟨W.drew, (Below.refl n W).drew⟩, rfl⟩
theorem cls_row {n : Nat} {W : World} {b : Nat} {o : Obj} (hb : b < n) (h : W.heap[b]? = some o) : ∀ w', Cls n W w' → w'.heap[b]? = some o := by
  rintro w' ⟨u, rfl⟩; exact row_below u.2 hb h
theorem want_n {o : Oper} {ops : Array Oper} {a : Act} (h : o.guard = none) : Region.wanted o (yielded ops a.tmps) = true := by simp [Region.wanted, h]
theorem want_g {o : Oper} {ops : Array Oper} {a : Act} (g : Nat) (b : Bool) (d : Tmp) (h : o.guard = some (g, b)) (hd : (ops[g]?).bind (·.dst) = some d) (hv : a.tmps[d]? = some (.bool b)) : Region.wanted o (yielded ops a.tmps) = true := by
  simp [Region.wanted, h, yielded, hd, hv]
section
variable {P : Program} {ops : Array Oper} {C : World → Prop} {Q : Act → Prop} {a : Act} {o : Oper} {rest : List Oper}
theorem wpQuiet_want' (hw : Region.wanted o (yielded ops a.tmps) = true) (h : ∀ K : Act → Prop, (∀ a, wpQuiet P ops C Q rest a → K a) → o.quiet P a C K) : wpQuiet P ops C Q (o :: rest) a :=
  wpQuiet_step fun K hK => by rw [if_pos hw]; exact h K hK
/-- IN A QUIET REGION: a load of one cell. -/
theorem wpQuiet_load1 (ty : TypeId) (x : Operand) (ho : o.op = .load ty x) (hw : Region.wanted o (yielded ops a.tmps) = true)
    (b off : Nat) (hx : a.eval x = .pointer (some ⟨b, off, none⟩)) (n : Nat) (f : Nat → Value) (t : TypeId) (hu : (P.underlying ty).map (·.isRow) = some false)
    (hg : ∀ w, C w → w.heap[b]? = some (.cells (vrow n f) t)) (hb : off < n)
    (h : wpQuiet P ops C Q rest (a.put o.dst (f off))) : wpQuiet P ops C Q (o :: rest) a := by
  refine wpQuiet_want' hw fun K hK => ⟨f off, fun w hC => ?_, hK _ h⟩
  obtain ⟨d, hu', hd⟩ := Option.map_eq_some_iff.1 hu
  have hc := cell_row (hg w hC) hb
  have hr : (Instr.loadAt ty (.pointer (some ⟨b, off, none⟩))).run P w = .ok (f off) w := by
    simp only [Instr.loadAt, Instr.sureAddr, Sem.run_bind, Sem.run_pure, Result.andThen_ok, loadVar, run_isAgg_row w ty d hu', hd, Bool.false_eq_true, if_false, run_load, hc]
  unfold Oper.quietAt
  simp only [execOp, ho, hx, Sem.run_bind, hr, Result.andThen_ok, Sem.run_pure, Oper.quietUpon]
  exact ⟨trivial, trivial⟩
/-- IN A QUIET REGION: a load of m cells. -/
theorem wpQuiet_loadmid (ty : TypeId) (x : Operand) (ho : o.op = .load ty x) (hw : Region.wanted o (yielded ops a.tmps) = true)
    (b off : Nat) (hx : a.eval x = .pointer (some ⟨b, off, none⟩)) (n m : Nat) (f : Nat → Value) (t : TypeId) (hu : (P.underlying ty).map (·.isRow) = some true) (hi : (P.info? ty).map (·.size) = some m)
    (hg : ∀ w, C w → w.heap[b]? = some (.cells (vrow n f) t)) (hb : off + m ≤ n)
    (h : wpQuiet P ops C Q rest (a.put o.dst (.agg (vrow m fun i => f (off + i))))) : wpQuiet P ops C Q (o :: rest) a := by
  refine wpQuiet_want' hw fun K hK => ⟨.agg (vrow m fun i => f (off + i)), fun w hC => ?_, hK _ h⟩
  obtain ⟨d, hu', hd⟩ := Option.map_eq_some_iff.1 hu
  have hr := run_loadAt_mid (P := P) w b off ty ((List.range m).map fun i => f (off + i)) d (fun j v hj => by
    have hjm : j < m := by
      by_cases c : j < m
      · exact c
      · rw [List.getElem?_eq_none (by simp; omega)] at hj; cases hj
    rw [cell_row (hg w hC) (by omega)]
    simp [hjm] at hj; rw [hj]) hu' hd (by simpa using hi)
  unfold Oper.quietAt
  simp only [execOp, ho, hx, Sem.run_bind, hr, Result.andThen_ok, Sem.run_pure, Oper.quietUpon]
  exact ⟨trivial, rfl⟩
end
section
variable {P : Program} {ops : Array Oper} {rest : List Oper} {o : Oper} {a : Act} {w : World} {Q : Exit → Act → World → Prop}
theorem wpList_want' (hw : Region.wanted o (yielded ops a.tmps) = true) (h : ∀ K : Act → World → Prop, (∀ a w, wpList P ops Q rest a w → K a w) → o.wp P a w K Q) : wpList P ops Q (o :: rest) a w :=
  wpList_step fun K hK => by rw [if_pos hw]; exact h K hK
/-- LOAD of one cell, guarded or not. -/
theorem wpList_ld1 (ty : TypeId) (x : Operand) (ho : o.op = .load ty x) (hw : Region.wanted o (yielded ops a.tmps) = true)
    (b off : Nat) (hx : a.eval x = .pointer (some ⟨b, off, none⟩)) (n : Nat) (f : Nat → Value) (t : TypeId) (hu : (P.underlying ty).map (·.isRow) = some false)
    (hg : w.heap[b]? = some (.cells (vrow n f) t)) (hb : off < n)
    (h : wpList P ops Q rest (a.put o.dst (f off)) w) : wpList P ops Q (o :: rest) a w := by
  refine wpList_want' hw fun K hK => ?_
  obtain ⟨d, hu', hd⟩ := Option.map_eq_some_iff.1 hu
  have hc := cell_row hg hb
  unfold Oper.wp execOp
  simp only [ho, hx, Instr.loadAt, Instr.sureAddr, Sem.run_bind, Sem.run_pure, Result.andThen_ok, loadVar, run_isAgg_row w ty d hu', hd, Bool.false_eq_true, if_false, run_load, hc]
  exact hK _ _ h
/-- LOAD of m cells, guarded or not. -/
theorem wpList_ldm (ty : TypeId) (x : Operand) (ho : o.op = .load ty x) (hw : Region.wanted o (yielded ops a.tmps) = true)
    (b off : Nat) (hx : a.eval x = .pointer (some ⟨b, off, none⟩)) (n m : Nat) (f : Nat → Value) (t : TypeId) (hu : (P.underlying ty).map (·.isRow) = some true) (hi : (P.info? ty).map (·.size) = some m)
    (hg : w.heap[b]? = some (.cells (vrow n f) t)) (hb : off + m ≤ n)
    (h : wpList P ops Q rest (a.put o.dst (.agg (vrow m fun i => f (off + i)))) w) : wpList P ops Q (o :: rest) a w := by
  refine wpList_want' hw fun K hK => ?_
  obtain ⟨d, hu', hd⟩ := Option.map_eq_some_iff.1 hu
  have hr := run_loadAt_mid (P := P) w b off ty ((List.range m).map fun i => f (off + i)) d (fun j v hj => by
    have hjm : j < m := by
      by_cases c : j < m
      · exact c
      · rw [List.getElem?_eq_none (by simp; omega)] at hj; cases hj
    rw [cell_row hg (by omega)]
    simp [hjm] at hj; rw [hj]) hu' hd (by simpa using hi)
  unfold Oper.wp execOp
  simp only [ho, hx, Sem.run_bind, hr, Result.andThen_ok, Sem.run_pure]
  exact hK _ _ h
end
/-- A REGION THAT DRAWS ITS ORDER, AND ONLY READS AND CALLS: walked once, in the text's order. -/
theorem region_cls {P : Program} {id : Nat} {Q : Exit → Act → World → Prop} {a : Act} {w : World} {l : List Oper} (n : Nat) (hm : P.follows .mixedOrders = true) (hB : Region.lexB .any l.toArray = true)
    (h : wpQuiet P l.toArray (Cls n w) (fun a' => ∀ w', Below n w w' → Q .normal a' w') l a) : (Code.region id l.toArray true).wp P Q a w := by
  refine wp_region_quiet (C := Cls n w) hm hB (cls_drew _ _) ?_
  have e : (fun a' => ∀ w', Below n w w' → Q .normal a' w') = (fun a' => ∀ w', Cls n w w' → Q .normal a' w') := by
    funext a'
    exact propext ⟨fun h w' ⟨u, hu⟩ => by rw [hu]; exact h _ u.2, fun h w' hw => h w' ⟨⟨w', hw⟩, rfl⟩⟩
  rw [e] at h
  simpa using h
/-- A PLAIN REGION's REST, WHERE IT ONLY READS AND CALLS. -/
theorem wpList_of_quiet {P : Program} {ops : Array Oper} {Q : Exit → Act → World → Prop} {C : World → Prop} : ∀ (l : List Oper) (a : Act) (w : World), C w → wpQuiet P ops C (fun a' => ∀ w', C w' → Q .normal a' w') l a → wpList P ops Q l a w
  | [], _, w, hw, h => h w hw
  | o :: rest, a, w, hw, h => by
    unfold wpQuiet at h
    refine wpList_step fun K hK => ?_
    split
    · rename_i hg
      rw [if_pos hg] at h
      exact Oper.wp_of_quiet hw (fun a' w' hw' h' => hK a' w' (wpList_of_quiet rest a' w' hw' h')) h
    · rename_i hg
      rw [if_neg hg] at h
      exact hK _ _ (wpList_of_quiet rest _ w hw h)
theorem list_cls {P : Program} {ops : Array Oper} {Q : Exit → Act → World → Prop} {l : List Oper} {a : Act} {w : World}
    (h : wpQuiet P ops (Cls w.heap.size w) (fun a' => ∀ w', Below w.heap.size w w' → Q .normal a' w') l a) : wpList P ops Q l a w := by
  refine wpList_of_quiet (C := Cls w.heap.size w) l a w ⟨⟨w, Below.refl _ _⟩, rfl⟩ ?_
  have e : (fun a' => ∀ w', Below w.heap.size w w' → Q .normal a' w') = (fun a' => ∀ w', Cls w.heap.size w w' → Q .normal a' w') := by
    funext a'
    exact propext ⟨fun h w' ⟨u, hu⟩ => by rw [hu]; exact h _ u.2, fun h w' hw => h w' ⟨⟨w', hw⟩, rfl⟩⟩
  rw [e] at h
  exact h
theorem list_at (d : Nat) {P : Program} {ops : Array Oper} {Q : Exit → Act → World → Prop} {l : List Oper} {o : Oper} {a : Act} {w : World} (_ : o.dst = some d)
    (h : ∀ W, w = W → wpQuiet P ops (Cls W.heap.size W) (fun a' => ∀ w', Below W.heap.size W w' → Q .normal a' w') (o :: l) a) : wpList P ops Q (o :: l) a w := list_cls (h w rfl)
theorem region_at {P : Program} {id : Nat} {Q : Exit → Act → World → Prop} {a : Act} {w : World} {l : List Oper} (hm : P.follows .mixedOrders = true) (hB : Region.lexB .any l.toArray = true)
    (h : ∀ W, w = W → wpQuiet P l.toArray (Cls W.heap.size W) (fun a' => ∀ w', Below W.heap.size W w' → Q .normal a' w') l a) : (Code.region id l.toArray true).wp P Q a w := region_cls _ hm hB (h w rfl)
theorem cls_row' {W : World} {b : Nat} {o : Obj} (h : W.heap[b]? = some o) : ∀ w', Cls W.heap.size W w' → w'.heap[b]? = some o := cls_row (row_lt h) h
theorem row_next {W W' : World} {b : Nat} {o : Obj} (hb : Below W.heap.size W W') (h : W.heap[b]? = some o) : W'.heap[b]? = some o := row_below hb (row_lt h) h
theorem below_next {w W W' : World} (h : Below w.heap.size w W) (hb : Below W.heap.size W W') : Below w.heap.size w W' := h.trans (hb.mono h.size)
/-- A spot's cells. -/
def spAt (x y : Int) (i : Nat) : Value := if i = 0 then .int .i8 x else .int .i8 y
theorem spAt_0 (x y : Int) : spAt x y 0 = .int .i8 x := rfl
theorem spAt_1 (x y : Int) : spAt x y 1 = .int .i8 y := rfl
theorem sp_row (x y : Int) : vrow 2 (fun i => spAt x y (0 + i)) = #[.int .i8 x, .int .i8 y] := rfl
theorem sp_vrow (x y : Int) : #[.int .i8 x, .int .i8 y] = vrow 2 (spAt x y) := rfl
theorem sh_row (s : Sh) : vrow 266 (fun i => s.at (0 + i)) = s.row := by simp
theorem Sh.at_wax1 (s : Sh) (y : Nat) (h : y < 8) : s.at (258 + y) = .int .u8 (s.wax y) := by
  unfold Sh.at; rw [if_neg (by omega), if_neg (by omega), if_neg (by omega), if_neg (by omega), show 258 + y - 258 = y by omega]
theorem Sh.at_wet1 (s : Sh) (k i : Nat) (hk : k = 2 + i) (h : i < 64) : s.at k = .int .i16 (s.wet i) := by
  unfold Sh.at; rw [if_neg (by omega), if_neg (by omega), if_pos (by omega), show k - 2 = i by omega]
theorem Sh.at_dye1 (s : Sh) (k i : Nat) (hk : k = 66 + i) (h : i < 192) : s.at k = .int .i16 (s.dye i) := by
  unfold Sh.at; rw [if_neg (by omega), if_neg (by omega), if_neg (by omega), if_pos (by omega), show k - 66 = i by omega]
theorem Sh.at_d3 (s : Sh) (k i : Nat) (hk : k = 66 + i) (h : i + 2 < 192) : vrow 3 (fun j => s.at (k + j)) = #[.int .i16 (s.dye i), .int .i16 (s.dye (i + 1)), .int .i16 (s.dye (i + 2))] := by
  show #[s.at (k + 0), s.at (k + 1), s.at (k + 2)] = _
  rw [s.at_dye1 (k + 0) i (by omega) (by omega), s.at_dye1 (k + 1) (i + 1) (by omega) (by omega), s.at_dye1 (k + 2) (i + 2) (by omega) (by omega)]
theorem rw_i8 : (Tryd.prog.underlying 23).map (·.isRow) = some false := by kernel_rfl
theorem rw_i16 : (Tryd.prog.underlying 24).map (·.isRow) = some false := by kernel_rfl
theorem rw_u8 : (Tryd.prog.underlying 5).map (·.isRow) = some false := by kernel_rfl
theorem rw_d3 : (Tryd.prog.underlying 27).map (·.isRow) = some true := by kernel_rfl
theorem rw_spot : (Tryd.prog.underlying 105).map (·.isRow) = some true := by kernel_rfl
theorem rw_sheet : (Tryd.prog.underlying 39).map (·.isRow) = some true := by kernel_rfl
theorem size_spot : (Tryd.prog.info? 105).map (·.size) = some 2 := by kernel_rfl
theorem eq_d3 (a b c a' b' c' : Int) (w : World) : (Op.equalIn 10000 27 (.agg #[.int .i16 a, .int .i16 b, .int .i16 c]) (.agg #[.int .i16 a', .int .i16 b', .int .i16 c'])).run Tryd.prog w = .ok ((a == a') && ((b == b') && (c == c'))) w := by
  obtain ⟨i, hi, hs⟩ := Option.map_eq_some_iff.1 size_i16
  have hc : Tryd.prog.cellsOf 24 = 1 := by kernel_rfl
  rw [run_equalIn_array w 9999 _ _ Tryd.underlying27 hi, hc]
  have e : List.range 3 = [0, 1, 2] := rfl
  have ha : ∀ w, (isAgg 24).run Tryd.prog w = .ok false w := fun w => run_isAgg_row w _ _ Tryd.underlying24
  simp only [e, Op.eqItems, part, Sem.run_bind, ha, Result.andThen_ok, Bool.false_eq_true, if_false]
  simp [run_equalIn_int w 9998 24 .i16 .i16 _ _ Tryd.underlying24]
  cases h1 : (a == a') <;> cases h2 : (b == b') <;> cases h3 : (c == c') <;> simp_all
/-- A CALL IN A QUIET REGION: its contract may ask that the world is as W below W's size. -/
theorem cls_call {P : Program} {f : FuncId} {args : Array Value} {W : World} {v : Value} (u : Ex W.heap.size W)
    (h : ∀ w, Below W.heap.size W w → Calls P f args w fun e w' => e = .returned v ∧ Below w.heap.size w w') : Calls P f args u.1 fun e w'' => e = .returned v ∧ Cls W.heap.size W w'' :=
  (h u.1 u.2).mono fun _ w' ⟨he, hb⟩ => ⟨he, ⟨⟨w', u.2.trans (hb.mono u.2.size)⟩, rfl⟩⟩
theorem below_of_eq {w w' : World} (h : w = w') : Below w.heap.size w w' := by rw [h]; exact Below.refl _ _
theorem in_yes (n a b : Int) (h1 : a ≤ n) (h2 : n ≤ b) (w : World) : Calls Tryd.prog 40 #[.int .i64 n, .int .i64 a, .int .i64 b] w fun e w' => e = .returned (.bool true) ∧ Below w.heap.size w w' := by
  go_enter Tryd.func40, Tryd.ntmps40
  go_wp2
  go_ret
  exact ⟨rfl, Below.refl _ _⟩
theorem in_no (n a b : Int) (h : n < a ∨ b < n) (w : World) : Calls Tryd.prog 40 #[.int .i64 n, .int .i64 a, .int .i64 b] w fun e w' => e = .returned (.bool false) ∧ Below w.heap.size w w' := by
  by_cases h1 : n < a
  · clear h
    go_enter Tryd.func40, Tryd.ntmps40
    go_wp2
    go_ret
    exact ⟨rfl, Below.refl _ _⟩
  · have h2 : decide (n ≤ b) = false := by simp; omega
    clear h
    go_enter Tryd.func40, Tryd.ntmps40
    go_wp2
    go_ret
    exact ⟨by rw [← h2]; rfl, Below.refl _ _⟩
end Go.Proofs.YtfhfiaphdgfmnaaDoor
namespace Go.Proofs.YtfhfiaphdgfmnaaDoor
open Go.RowKit
/-- the cell x, y is there -/
def hasB (s : Sh) (x y : Int) : Bool := decide (0 ≤ x) && (decide (x < s.wide) && (decide (0 ≤ y) && decide (y < s.high)))
def waxB (s : Sh) (x y : Nat) : Bool := bits BinOp.and IntKind.u8 (s.wax y / 2 ^ x) 1 == 1
def bareB (s : Sh) (x y : Nat) : Bool := (s.wet (8 * y + x) == 0) && ((s.dye (24 * y + 3 * x) == 0) && ((s.dye (24 * y + 3 * x + 1) == 0) && (s.dye (24 * y + 3 * x + 2) == 0)))
/-- a place is one of so many columns and rows -/
def insB (a c x y : Int) : Bool := decide (0 ≤ x) && (decide (x < a) && (decide (0 ≤ y) && decide (y < c)))
set_option maxHeartbeats 400000 in
theorem inside_any (a c x y : Int) (w : World) : Calls Tryd.prog 122 #[.int .i8 a, .int .i8 c, .agg #[.int .i8 x, .int .i8 y]] w fun e w' => e = .returned (.bool (insB a c x y)) ∧ Below w.heap.size w w' := by
  rw [sp_vrow]
  have hB : Hid (Below w.heap.size w (w.alloc (.cells (vrow 2 (spAt x y)) 105))) := ((Below.refl w.heap.size w).alloc (by simp <;> omega) _)
  have R : Hid ((w.alloc (.cells (vrow 2 (spAt x y)) 105)).heap[(w.heap.size)]? = some (.cells (vrow 2 (spAt x y)) 105)) := heap_at _ _ _ (by simp)
  by_cases h1 : 0 ≤ x
  · by_cases h2 : x < a
    · by_cases h3 : 0 ≤ y
      · by_cases h4 : y < c
        all_goals
          go_enter Tryd.func122, Tryd.ntmps122
          go_wp2_with (refine wpList_ld1 23 _ rfl (by first | exact want_n rfl | exact want_g _ _ _ rfl rfl rfl) (w.heap.size) _ rfl 2 (spAt x y) _ rw_i8 R.out (by omega) ?_; (first | rw [spAt_0] | rw [spAt_1]))
          go_ret
          exact ⟨by simp [insB] <;> (first | omega | (intros; omega)), hB.out⟩
      · go_enter Tryd.func122, Tryd.ntmps122
        go_wp2_with (refine wpList_ld1 23 _ rfl (by first | exact want_n rfl | exact want_g _ _ _ rfl rfl rfl) (w.heap.size) _ rfl 2 (spAt x y) _ rw_i8 R.out (by omega) ?_; (first | rw [spAt_0] | rw [spAt_1]))
        go_ret
        exact ⟨by simp [insB] <;> (first | omega | (intros; omega)), hB.out⟩
    · go_enter Tryd.func122, Tryd.ntmps122
      go_wp2_with (refine wpList_ld1 23 _ rfl (by first | exact want_n rfl | exact want_g _ _ _ rfl rfl rfl) (w.heap.size) _ rfl 2 (spAt x y) _ rw_i8 R.out (by omega) ?_; (first | rw [spAt_0] | rw [spAt_1]))
      go_ret
      exact ⟨by simp [insB] <;> (first | omega | (intros; omega)), hB.out⟩
  · go_enter Tryd.func122, Tryd.ntmps122
    go_wp2_with (refine wpList_ld1 23 _ rfl (by first | exact want_n rfl | exact want_g _ _ _ rfl rfl rfl) (w.heap.size) _ rfl 2 (spAt x y) _ rw_i8 R.out (by omega) ?_; (first | rw [spAt_0] | rw [spAt_1]))
    go_ret
    exact ⟨by simp [insB] <;> (first | omega | (intros; omega)), hB.out⟩
set_option maxHeartbeats 400000 in
theorem has_any (s : Sh) (x y : Int) (w : World) : Calls Tryd.prog 117 #[.agg s.row, .agg #[.int .i8 x, .int .i8 y]] w fun e w' => e = .returned (.bool (hasB s x y)) ∧ Below w.heap.size w w' := by
  rw [sp_vrow]
  have hB : Hid (Below w.heap.size w ((w.alloc (.cells (vrow 266 s.at) 39)).alloc (.cells (vrow 2 (spAt x y)) 105))) := (((Below.refl w.heap.size w).alloc (by simp <;> omega) _).alloc (by simp <;> omega) _)
  have P : Hid (((w.alloc (.cells (vrow 266 s.at) 39)).alloc (.cells (vrow 2 (spAt x y)) 105)).heap[(w.heap.size)]? = some (.cells (vrow 266 s.at) 39)) := heap_past _ _ _ _ (by first | omega | (simp <;> omega)) (heap_at _ _ _ (by simp))
  have R : Hid (((w.alloc (.cells (vrow 266 s.at) 39)).alloc (.cells (vrow 2 (spAt x y)) 105)).heap[(w.heap.size + 1)]? = some (.cells (vrow 2 (spAt x y)) 105)) := heap_at _ _ _ (by simp)
  have HC := Go.Lib.hid (fun w => inside_any s.wide s.high x y w)
  go_enter Tryd.func117, Tryd.ntmps117
  go_wp2_with (first
    | (refine wpList_ld1 23 _ rfl (by first | exact want_n rfl | exact want_g _ _ _ rfl rfl rfl) (w.heap.size) _ rfl 266 s.at _ rw_i8 P.out (by omega) ?_; (first | rw [Sh.at_0] | rw [Sh.at_1]))
    | (refine wpList_ldm 105 _ rfl (by first | exact want_n rfl | exact want_g _ _ _ rfl rfl rfl) (w.heap.size + 1) _ rfl 2 2 (spAt x y) _ rw_spot size_spot R.out (by omega) ?_; rw [sp_row])
    | (go_at_call 122; (refine (HC.out _).mono ?_; rintro e w1 ⟨rfl, hb⟩; replace hB := Go.Lib.hid (below_next hB.out hb); clear hb)))
  go_ret
  exact ⟨rfl, hB.out⟩
set_option maxHeartbeats 400000 in
theorem waxed_any (s : Sh) (x y : Nat) (hx : x < 8) (hy : y < 8) (w : World) : Calls Tryd.prog 110 #[.agg s.row, .agg #[.int .i8 x, .int .i8 y]] w fun e w' => e = .returned (.bool (waxB s x y)) ∧ Below w.heap.size w w' := by
  rw [sp_vrow]
  have hB : Hid (Below w.heap.size w ((w.alloc (.cells (vrow 266 s.at) 39)).alloc (.cells (vrow 2 (spAt x y)) 105))) := (((Below.refl w.heap.size w).alloc (by simp <;> omega) _).alloc (by simp <;> omega) _)
  have P : Hid (((w.alloc (.cells (vrow 266 s.at) 39)).alloc (.cells (vrow 2 (spAt x y)) 105)).heap[(w.heap.size)]? = some (.cells (vrow 266 s.at) 39)) := heap_past _ _ _ _ (by first | omega | (simp <;> omega)) (heap_at _ _ _ (by simp))
  have R : Hid (((w.alloc (.cells (vrow 266 s.at) 39)).alloc (.cells (vrow 2 (spAt x y)) 105)).heap[(w.heap.size + 1)]? = some (.cells (vrow 2 (spAt x y)) 105)) := heap_at _ _ _ (by simp)
  go_enter Tryd.func110, Tryd.ntmps110
  go_wp2
  obtain ⟨W, hW⟩ : ∃ W, ((w.alloc (.cells (vrow 266 s.at) 39)).alloc (.cells (vrow 2 (spAt x y)) 105)) = W := ⟨_, rfl⟩
  have hS : w.heap.size + 2 ≤ W.heap.size := by rw [← hW]; simp <;> omega
  rw [hW] at hB P R ⊢
  clear hW
  have P' := Go.Lib.hid (cls_row (n := W.heap.size) (by omega) P.out); have R' := Go.Lib.hid (cls_row (n := W.heap.size) (by omega) R.out)
  refine region_cls W.heap.size (by kernel_rfl) (by kernel_rfl) ?_
  repeat (first
    | go_big_quiet_skip
    | (refine wpQuiet_load1 23 _ rfl (by first | exact want_n rfl | exact want_g _ _ _ rfl rfl rfl) (w.heap.size) _ rfl 266 s.at _ rw_i8 P'.out (by omega) ?_; (first | rw [Sh.at_0] | rw [Sh.at_1] | rw [Sh.at_wax1 _ _ (by omega)] | rw [Sh.at_wet1 _ _ (8 * y + x) (by omega) (by omega)] | rw [Sh.at_dye1 _ _ (24 * y + 3 * x) (by omega) (by omega)]); simp only [Act.put, List.setIfInBounds_toArray, List.set_cons_succ, List.set_cons_zero])
    | (refine wpQuiet_load1 5 _ rfl (by first | exact want_n rfl | exact want_g _ _ _ rfl rfl rfl) (w.heap.size) _ rfl 266 s.at _ rw_u8 P'.out (by omega) ?_; (first | rw [Sh.at_0] | rw [Sh.at_1] | rw [Sh.at_wax1 _ _ (by omega)] | rw [Sh.at_wet1 _ _ (8 * y + x) (by omega) (by omega)] | rw [Sh.at_dye1 _ _ (24 * y + 3 * x) (by omega) (by omega)]); simp only [Act.put, List.setIfInBounds_toArray, List.set_cons_succ, List.set_cons_zero])
    | (refine wpQuiet_load1 23 _ rfl (by first | exact want_n rfl | exact want_g _ _ _ rfl rfl rfl) (w.heap.size + 1) _ rfl 2 (spAt x y) _ rw_i8 R'.out (by omega) ?_; (first | rw [spAt_0] | rw [spAt_1]); simp only [Act.put, List.setIfInBounds_toArray, List.set_cons_succ, List.set_cons_zero])
    | (refine wpQuiet_load1 5 _ rfl (by first | exact want_n rfl | exact want_g _ _ _ rfl rfl rfl) (w.heap.size + 1) _ rfl 2 (spAt x y) _ rw_u8 R'.out (by omega) ?_; (first | rw [spAt_0] | rw [spAt_1]); simp only [Act.put, List.setIfInBounds_toArray, List.set_cons_succ, List.set_cons_zero])
    | go_big_quiet_step (fail))
  refine wpQuiet_nil ?_; intro W2 hb; have hS2 : W.heap.size ≤ W2.heap.size := hb.size; have hB2 := Go.Lib.hid (hB.out.trans (hb.mono (by omega)))
  have P2 := Go.Lib.hid (row_below hb (by omega) P.out); have R2 := Go.Lib.hid (row_below hb (by omega) R.out)
  clear hb P P' R R'
  go_wp2
  go_ret
  exact ⟨rfl, hB2.out⟩
set_option maxHeartbeats 400000 in
theorem bare_any (s : Sh) (x y : Nat) (hx : x < 8) (hy : y < 8) (w : World) : Calls Tryd.prog 118 #[.agg s.row, .agg #[.int .i8 x, .int .i8 y]] w fun e w' => e = .returned (.bool (bareB s x y)) ∧ Below w.heap.size w w' := by
  rw [sp_vrow]
  have heq := eq_d3
  by_cases hw : s.wet (8 * y + x) = 0
  · have hB : Hid (Below w.heap.size w ((w.alloc (.cells (vrow 266 s.at) 39)).alloc (.cells (vrow 2 (spAt x y)) 105))) := (((Below.refl w.heap.size w).alloc (by simp <;> omega) _).alloc (by simp <;> omega) _)
    have P : Hid (((w.alloc (.cells (vrow 266 s.at) 39)).alloc (.cells (vrow 2 (spAt x y)) 105)).heap[(w.heap.size)]? = some (.cells (vrow 266 s.at) 39)) := heap_past _ _ _ _ (by first | omega | (simp <;> omega)) (heap_at _ _ _ (by simp))
    have R : Hid (((w.alloc (.cells (vrow 266 s.at) 39)).alloc (.cells (vrow 2 (spAt x y)) 105)).heap[(w.heap.size + 1)]? = some (.cells (vrow 2 (spAt x y)) 105)) := heap_at _ _ _ (by simp)
    go_enter Tryd.func118, Tryd.ntmps118
    go_wp2
    obtain ⟨W, hW⟩ : ∃ W, ((w.alloc (.cells (vrow 266 s.at) 39)).alloc (.cells (vrow 2 (spAt x y)) 105)) = W := ⟨_, rfl⟩
    have hS : w.heap.size + 2 ≤ W.heap.size := by rw [← hW]; simp <;> omega
    rw [hW] at hB P R ⊢
    clear hW
    have P' := Go.Lib.hid (cls_row (n := W.heap.size) (by omega) P.out); have R' := Go.Lib.hid (cls_row (n := W.heap.size) (by omega) R.out)
    refine region_cls W.heap.size (by kernel_rfl) (by kernel_rfl) ?_
    repeat (first
      | go_big_quiet_skip
      | (refine wpQuiet_load1 23 _ rfl (by first | exact want_n rfl | exact want_g _ _ _ rfl rfl rfl) (w.heap.size) _ rfl 266 s.at _ rw_i8 P'.out (by omega) ?_; (first | rw [Sh.at_0] | rw [Sh.at_1] | rw [Sh.at_wax1 _ _ (by omega)] | rw [Sh.at_wet1 _ _ (8 * y + x) (by omega) (by omega)] | rw [Sh.at_dye1 _ _ (24 * y + 3 * x) (by omega) (by omega)]); simp only [Act.put, List.setIfInBounds_toArray, List.set_cons_succ, List.set_cons_zero])
      | (refine wpQuiet_load1 24 _ rfl (by first | exact want_n rfl | exact want_g _ _ _ rfl rfl rfl) (w.heap.size) _ rfl 266 s.at _ rw_i16 P'.out (by omega) ?_; (first | rw [Sh.at_0] | rw [Sh.at_1] | rw [Sh.at_wax1 _ _ (by omega)] | rw [Sh.at_wet1 _ _ (8 * y + x) (by omega) (by omega)] | rw [Sh.at_dye1 _ _ (24 * y + 3 * x) (by omega) (by omega)]); simp only [Act.put, List.setIfInBounds_toArray, List.set_cons_succ, List.set_cons_zero])
      | (refine wpQuiet_loadmid 27 _ rfl (by first | exact want_n rfl | exact want_g _ _ _ rfl rfl rfl) (w.heap.size) _ rfl 266 3 s.at _ rw_d3 size_d3 P'.out (by omega) ?_; rw [Sh.at_d3 _ _ (24 * y + 3 * x) (by omega) (by omega)]; simp only [Act.put, List.setIfInBounds_toArray, List.set_cons_succ, List.set_cons_zero])
      | (refine wpQuiet_load1 23 _ rfl (by first | exact want_n rfl | exact want_g _ _ _ rfl rfl rfl) (w.heap.size + 1) _ rfl 2 (spAt x y) _ rw_i8 R'.out (by omega) ?_; (first | rw [spAt_0] | rw [spAt_1]); simp only [Act.put, List.setIfInBounds_toArray, List.set_cons_succ, List.set_cons_zero])
      | (refine wpQuiet_load1 24 _ rfl (by first | exact want_n rfl | exact want_g _ _ _ rfl rfl rfl) (w.heap.size + 1) _ rfl 2 (spAt x y) _ rw_i16 R'.out (by omega) ?_; (first | rw [spAt_0] | rw [spAt_1]); simp only [Act.put, List.setIfInBounds_toArray, List.set_cons_succ, List.set_cons_zero])
      | (refine wpQuiet_loadmid 27 _ rfl (by first | exact want_n rfl | exact want_g _ _ _ rfl rfl rfl) (w.heap.size + 1) _ rfl 2 3 (spAt x y) _ rw_d3 size_d3 R'.out (by omega) ?_; rw [sp_row]; simp only [Act.put, List.setIfInBounds_toArray, List.set_cons_succ, List.set_cons_zero])
      | go_big_quiet_step (fail))
    refine wpQuiet_nil ?_; intro W2 hb; have hS2 : W.heap.size ≤ W2.heap.size := hb.size; have hB2 := Go.Lib.hid (hB.out.trans (hb.mono (by omega)))
    have P2 := Go.Lib.hid (row_below hb (by omega) P.out); have R2 := Go.Lib.hid (row_below hb (by omega) R.out)
    clear hb P P' R R'
    go_wp2
    go_ret
    exact ⟨by simp [bareB, hw], hB2.out⟩
  · have hd : (s.wet (8 * y + x) == 0) = false := by simpa using hw
    clear hw
    have hB : Hid (Below w.heap.size w ((w.alloc (.cells (vrow 266 s.at) 39)).alloc (.cells (vrow 2 (spAt x y)) 105))) := (((Below.refl w.heap.size w).alloc (by simp <;> omega) _).alloc (by simp <;> omega) _)
    have P : Hid (((w.alloc (.cells (vrow 266 s.at) 39)).alloc (.cells (vrow 2 (spAt x y)) 105)).heap[(w.heap.size)]? = some (.cells (vrow 266 s.at) 39)) := heap_past _ _ _ _ (by first | omega | (simp <;> omega)) (heap_at _ _ _ (by simp))
    have R : Hid (((w.alloc (.cells (vrow 266 s.at) 39)).alloc (.cells (vrow 2 (spAt x y)) 105)).heap[(w.heap.size + 1)]? = some (.cells (vrow 2 (spAt x y)) 105)) := heap_at _ _ _ (by simp)
    go_enter Tryd.func118, Tryd.ntmps118
    go_wp2
    obtain ⟨W, hW⟩ : ∃ W, ((w.alloc (.cells (vrow 266 s.at) 39)).alloc (.cells (vrow 2 (spAt x y)) 105)) = W := ⟨_, rfl⟩
    have hS : w.heap.size + 2 ≤ W.heap.size := by rw [← hW]; simp <;> omega
    rw [hW] at hB P R ⊢
    clear hW
    have P' := Go.Lib.hid (cls_row (n := W.heap.size) (by omega) P.out); have R' := Go.Lib.hid (cls_row (n := W.heap.size) (by omega) R.out)
    refine region_cls W.heap.size (by kernel_rfl) (by kernel_rfl) ?_
    repeat (first
      | go_big_quiet_skip
      | (refine wpQuiet_load1 23 _ rfl (by first | exact want_n rfl | exact want_g _ _ _ rfl rfl rfl) (w.heap.size) _ rfl 266 s.at _ rw_i8 P'.out (by omega) ?_; (first | rw [Sh.at_0] | rw [Sh.at_1] | rw [Sh.at_wax1 _ _ (by omega)] | rw [Sh.at_wet1 _ _ (8 * y + x) (by omega) (by omega)] | rw [Sh.at_dye1 _ _ (24 * y + 3 * x) (by omega) (by omega)]); simp only [Act.put, List.setIfInBounds_toArray, List.set_cons_succ, List.set_cons_zero])
      | (refine wpQuiet_load1 24 _ rfl (by first | exact want_n rfl | exact want_g _ _ _ rfl rfl rfl) (w.heap.size) _ rfl 266 s.at _ rw_i16 P'.out (by omega) ?_; (first | rw [Sh.at_0] | rw [Sh.at_1] | rw [Sh.at_wax1 _ _ (by omega)] | rw [Sh.at_wet1 _ _ (8 * y + x) (by omega) (by omega)] | rw [Sh.at_dye1 _ _ (24 * y + 3 * x) (by omega) (by omega)]); simp only [Act.put, List.setIfInBounds_toArray, List.set_cons_succ, List.set_cons_zero])
      | (refine wpQuiet_loadmid 27 _ rfl (by first | exact want_n rfl | exact want_g _ _ _ rfl rfl rfl) (w.heap.size) _ rfl 266 3 s.at _ rw_d3 size_d3 P'.out (by omega) ?_; rw [Sh.at_d3 _ _ (24 * y + 3 * x) (by omega) (by omega)]; simp only [Act.put, List.setIfInBounds_toArray, List.set_cons_succ, List.set_cons_zero])
      | (refine wpQuiet_load1 23 _ rfl (by first | exact want_n rfl | exact want_g _ _ _ rfl rfl rfl) (w.heap.size + 1) _ rfl 2 (spAt x y) _ rw_i8 R'.out (by omega) ?_; (first | rw [spAt_0] | rw [spAt_1]); simp only [Act.put, List.setIfInBounds_toArray, List.set_cons_succ, List.set_cons_zero])
      | (refine wpQuiet_load1 24 _ rfl (by first | exact want_n rfl | exact want_g _ _ _ rfl rfl rfl) (w.heap.size + 1) _ rfl 2 (spAt x y) _ rw_i16 R'.out (by omega) ?_; (first | rw [spAt_0] | rw [spAt_1]); simp only [Act.put, List.setIfInBounds_toArray, List.set_cons_succ, List.set_cons_zero])
      | (refine wpQuiet_loadmid 27 _ rfl (by first | exact want_n rfl | exact want_g _ _ _ rfl rfl rfl) (w.heap.size + 1) _ rfl 2 3 (spAt x y) _ rw_d3 size_d3 R'.out (by omega) ?_; rw [sp_row]; simp only [Act.put, List.setIfInBounds_toArray, List.set_cons_succ, List.set_cons_zero])
      | go_big_quiet_step (fail))
    refine wpQuiet_nil ?_; intro W2 hb; have hS2 : W.heap.size ≤ W2.heap.size := hb.size; have hB2 := Go.Lib.hid (hB.out.trans (hb.mono (by omega)))
    have P2 := Go.Lib.hid (row_below hb (by omega) P.out); have R2 := Go.Lib.hid (row_below hb (by omega) R.out)
    clear hb P P' R R'
    go_wp2
    go_ret
    exact ⟨by simp [bareB, hd], hB2.out⟩
end Go.Proofs.YtfhfiaphdgfmnaaDoor
namespace Go.Proofs.YtfhfiaphdgfmnaaDoor
open Go.RowKit
set_option linter.unusedVariables false
/-- the sheet's numbers fit their kinds -/
structure Sh.fit (s : Sh) : Prop where
  wide : -128 ≤ s.wide ∧ s.wide ≤ 127
  high : -128 ≤ s.high ∧ s.high ≤ 127
  wet : ∀ i, i < 64 → -32768 ≤ s.wet i ∧ s.wet i ≤ 32767
  dye : ∀ i, i < 192 → -32768 ≤ s.dye i ∧ s.dye i ≤ 32767
  wax : ∀ i, i < 8 → 0 ≤ s.wax i ∧ s.wax i ≤ 255
set_option maxHeartbeats 400000 in
theorem is_any (s : Sh) (b : Nat) (x y : Int) (w : World) (hs : w.heap[b]? = some (.cells s.row 39)) (hf : s.fit) (hx : -128 ≤ x ∧ x ≤ 127) (hy : -128 ≤ y ∧ y ≤ 127) : Calls Tryd.prog 75 #[.pointer (some ⟨b, 0, none⟩), .agg #[.int .i8 x, .int .i8 y]] w fun e w' => e = .returned (.bool (hasB s x y)) ∧ Below w.heap.size w w' := by
  rw [sp_vrow]
  have hf1 := hf.wide; have hf2 := hf.high
  clear hf
  have hB : Hid (Below w.heap.size w (w.alloc (.cells (vrow 2 (spAt x y)) 105))) := ((Below.refl w.heap.size w).alloc (by simp <;> omega) _)
  have R : Hid ((w.alloc (.cells (vrow 2 (spAt x y)) 105)).heap[(w.heap.size)]? = some (.cells (vrow 2 (spAt x y)) 105)) := heap_at _ _ _ (by simp)
  have P : Hid ((w.alloc (.cells (vrow 2 (spAt x y)) 105)).heap[b]? = some (.cells (vrow 266 s.at) 39)) := heap_past _ _ _ _ (by first | (have := row_lt hs; omega) | (have := row_lt hs; simp <;> omega)) (hs)
  by_cases h1 : 0 ≤ x ∧ x ≤ s.wide - 1
  · obtain ⟨h1, h2⟩ := h1
    by_cases h3 : 0 ≤ y ∧ y ≤ s.high - 1
    · obtain ⟨h3, h4⟩ := h3
      go_enter Tryd.func75, Tryd.ntmps75
      go_wp2
      (refine region_at (by kernel_rfl) (by kernel_rfl) ?_; intro W hW; rw [hW] at hB P R; clear hW; have P' := Go.Lib.hid (cls_row' P.out); have R' := Go.Lib.hid (cls_row' R.out); (repeat (first | go_big_quiet_skip | (refine wpQuiet_load1 23 _ rfl (by first | exact want_n rfl | exact want_g _ _ _ rfl rfl rfl) b _ rfl 266 s.at _ rw_i8 P'.out (by omega) ?_; (first | rw [Sh.at_0] | rw [Sh.at_1] | rw [Sh.at_wax1 _ _ (by omega)] | rw [Sh.at_wet1 _ _ (8 * y + x) (by omega) (by omega)] | rw [Sh.at_dye1 _ _ (24 * y + 3 * x) (by omega) (by omega)]); simp only [Act.put, List.setIfInBounds_toArray, List.set_cons_succ, List.set_cons_zero]) | (refine wpQuiet_load1 23 _ rfl (by first | exact want_n rfl | exact want_g _ _ _ rfl rfl rfl) (w.heap.size) _ rfl 2 (spAt x y) _ rw_i8 R'.out (by omega) ?_; (first | rw [spAt_0] | rw [spAt_1]); simp only [Act.put, List.setIfInBounds_toArray, List.set_cons_succ, List.set_cons_zero]) | go_big_quiet_step ((go_at_call 40; first | exact cls_call _ (fun w hw => in_yes _ _ _ (by omega) (by omega) w) | exact cls_call _ (fun w hw => in_no _ _ _ (by omega) w))))); refine wpQuiet_nil ?_; intro Wn hb; replace P := Go.Lib.hid (row_next hb P.out); replace R := Go.Lib.hid (row_next hb R.out); replace hB := Go.Lib.hid (below_next hB.out hb); clear hb P' R')
      go_wp2
      go_ret
      exact ⟨by simp [hasB] <;> (first | omega | (intros; omega)), hB.out⟩
    · have h3' : y < 0 ∨ s.high - 1 < y := by omega
      clear h3
      go_enter Tryd.func75, Tryd.ntmps75
      go_wp2
      (refine region_at (by kernel_rfl) (by kernel_rfl) ?_; intro W hW; rw [hW] at hB P R; clear hW; have P' := Go.Lib.hid (cls_row' P.out); have R' := Go.Lib.hid (cls_row' R.out); (repeat (first | go_big_quiet_skip | (refine wpQuiet_load1 23 _ rfl (by first | exact want_n rfl | exact want_g _ _ _ rfl rfl rfl) b _ rfl 266 s.at _ rw_i8 P'.out (by omega) ?_; (first | rw [Sh.at_0] | rw [Sh.at_1] | rw [Sh.at_wax1 _ _ (by omega)] | rw [Sh.at_wet1 _ _ (8 * y + x) (by omega) (by omega)] | rw [Sh.at_dye1 _ _ (24 * y + 3 * x) (by omega) (by omega)]); simp only [Act.put, List.setIfInBounds_toArray, List.set_cons_succ, List.set_cons_zero]) | (refine wpQuiet_load1 23 _ rfl (by first | exact want_n rfl | exact want_g _ _ _ rfl rfl rfl) (w.heap.size) _ rfl 2 (spAt x y) _ rw_i8 R'.out (by omega) ?_; (first | rw [spAt_0] | rw [spAt_1]); simp only [Act.put, List.setIfInBounds_toArray, List.set_cons_succ, List.set_cons_zero]) | go_big_quiet_step ((go_at_call 40; first | exact cls_call _ (fun w hw => in_yes _ _ _ (by omega) (by omega) w) | exact cls_call _ (fun w hw => in_no _ _ _ (by omega) w))))); refine wpQuiet_nil ?_; intro Wn hb; replace P := Go.Lib.hid (row_next hb P.out); replace R := Go.Lib.hid (row_next hb R.out); replace hB := Go.Lib.hid (below_next hB.out hb); clear hb P' R')
      go_wp2
      go_ret
      exact ⟨by simp [hasB] <;> (first | omega | (intros; omega)), hB.out⟩
  · have h1' : x < 0 ∨ s.wide - 1 < x := by omega
    clear h1
    go_enter Tryd.func75, Tryd.ntmps75
    go_wp2
    (refine region_at (by kernel_rfl) (by kernel_rfl) ?_; intro W hW; rw [hW] at hB P R; clear hW; have P' := Go.Lib.hid (cls_row' P.out); have R' := Go.Lib.hid (cls_row' R.out); (repeat (first | go_big_quiet_skip | (refine wpQuiet_load1 23 _ rfl (by first | exact want_n rfl | exact want_g _ _ _ rfl rfl rfl) b _ rfl 266 s.at _ rw_i8 P'.out (by omega) ?_; (first | rw [Sh.at_0] | rw [Sh.at_1] | rw [Sh.at_wax1 _ _ (by omega)] | rw [Sh.at_wet1 _ _ (8 * y + x) (by omega) (by omega)] | rw [Sh.at_dye1 _ _ (24 * y + 3 * x) (by omega) (by omega)]); simp only [Act.put, List.setIfInBounds_toArray, List.set_cons_succ, List.set_cons_zero]) | (refine wpQuiet_load1 23 _ rfl (by first | exact want_n rfl | exact want_g _ _ _ rfl rfl rfl) (w.heap.size) _ rfl 2 (spAt x y) _ rw_i8 R'.out (by omega) ?_; (first | rw [spAt_0] | rw [spAt_1]); simp only [Act.put, List.setIfInBounds_toArray, List.set_cons_succ, List.set_cons_zero]) | go_big_quiet_step ((go_at_call 40; first | exact cls_call _ (fun w hw => in_yes _ _ _ (by omega) (by omega) w) | exact cls_call _ (fun w hw => in_no _ _ _ (by omega) w))))); refine wpQuiet_nil ?_; intro Wn hb; replace P := Go.Lib.hid (row_next hb P.out); replace R := Go.Lib.hid (row_next hb R.out); replace hB := Go.Lib.hid (below_next hB.out hb); clear hb P' R')
    go_wp2
    go_ret
    exact ⟨by simp [hasB] <;> (first | omega | (intros; omega)), hB.out⟩
set_option maxHeartbeats 400000 in
theorem lwaxed_any (s : Sh) (b : Nat) (x y : Nat) (w : World) (hs : w.heap[b]? = some (.cells s.row 39)) (hx : x < 8) (hy : y < 8) : Calls Tryd.prog 76 #[.pointer (some ⟨b, 0, none⟩), .agg #[.int .i8 x, .int .i8 y]] w fun e w' => e = .returned (.bool (waxB s x y)) ∧ Below w.heap.size w w' := by
  rw [sp_vrow]
  have hB : Hid (Below w.heap.size w (w.alloc (.cells (vrow 2 (spAt x y)) 105))) := ((Below.refl w.heap.size w).alloc (by simp <;> omega) _)
  have R : Hid ((w.alloc (.cells (vrow 2 (spAt x y)) 105)).heap[(w.heap.size)]? = some (.cells (vrow 2 (spAt x y)) 105)) := heap_at _ _ _ (by simp)
  have P : Hid ((w.alloc (.cells (vrow 2 (spAt x y)) 105)).heap[b]? = some (.cells (vrow 266 s.at) 39)) := heap_past _ _ _ _ (by first | (have := row_lt hs; omega) | (have := row_lt hs; simp <;> omega)) (hs)
  go_enter Tryd.func76, Tryd.ntmps76
  go_wp2
  (refine region_at (by kernel_rfl) (by kernel_rfl) ?_; intro W hW; rw [hW] at hB P R; clear hW; have P' := Go.Lib.hid (cls_row' P.out); have R' := Go.Lib.hid (cls_row' R.out); (repeat (first | go_big_quiet_skip | (refine wpQuiet_load1 5 _ rfl (by first | exact want_n rfl | exact want_g _ _ _ rfl rfl rfl) b _ rfl 266 s.at _ rw_u8 P'.out (by omega) ?_; (first | rw [Sh.at_0] | rw [Sh.at_1] | rw [Sh.at_wax1 _ _ (by omega)] | rw [Sh.at_wet1 _ _ (8 * y + x) (by omega) (by omega)] | rw [Sh.at_dye1 _ _ (24 * y + 3 * x) (by omega) (by omega)]); simp only [Act.put, List.setIfInBounds_toArray, List.set_cons_succ, List.set_cons_zero]) | (refine wpQuiet_load1 23 _ rfl (by first | exact want_n rfl | exact want_g _ _ _ rfl rfl rfl) (w.heap.size) _ rfl 2 (spAt x y) _ rw_i8 R'.out (by omega) ?_; (first | rw [spAt_0] | rw [spAt_1]); simp only [Act.put, List.setIfInBounds_toArray, List.set_cons_succ, List.set_cons_zero]) | go_big_quiet_step (fail))); refine wpQuiet_nil ?_; intro Wn hb; replace P := Go.Lib.hid (row_next hb P.out); replace R := Go.Lib.hid (row_next hb R.out); replace hB := Go.Lib.hid (below_next hB.out hb); clear hb P' R')
  go_wp2
  go_ret
  exact ⟨rfl, hB.out⟩
end Go.Proofs.YtfhfiaphdgfmnaaDoor
namespace Go.Proofs.YtfhfiaphdgfmnaaDoor
open Go.RowKit
set_option linter.unusedVariables false
def wOk (s : Sh) (x y : Nat) : Bool := decide (0 ≤ s.wet (8 * y + x)) && decide (s.wet (8 * y + x) ≤ 200)
def dOk (s : Sh) (x y i : Nat) : Bool := decide (0 ≤ s.dye (24 * y + 3 * x + i)) && decide (s.dye (24 * y + 3 * x + i) ≤ 1000)
def psum (s : Sh) (x y : Nat) : Nat → Int
  | 0 => s.wet (8 * y + x)
  | k + 1 => psum s x y k + s.dye (24 * y + 3 * x + k)
def cellB (s : Sh) (x y : Nat) : Bool := wOk s x y && ((dOk s x y 0 && (dOk s x y 1 && dOk s x y 2)) && ((psum s x y 3 == 0) || (hasB s x y && !waxB s x y)))
theorem psum_bd (s : Sh) (x y : Nat) (hw : wOk s x y = true) : ∀ k, k ≤ 3 → (∀ j, j < k → dOk s x y j = true) → 0 ≤ psum s x y k ∧ psum s x y k ≤ 200 + 1000 * k
  | 0, _, _ => by simp [wOk] at hw; simp [psum]; omega
  | k + 1, hk, h => by
    have h1 := psum_bd s x y hw k (by omega) (fun j hj => h j (by omega))
    have h2 := h k (by omega)
    simp [dOk] at h2
    simp only [psum]; omega
set_option maxHeartbeats 1000000 in
theorem cell_any (s : Sh) (b : Nat) (x y : Nat) (w : World) (hs : w.heap[b]? = some (.cells s.row 39)) (hf : s.fit) (hx : x < 8) (hy : y < 8) : Calls Tryd.prog 77 #[.pointer (some ⟨b, 0, none⟩), .agg #[.int .i8 x, .int .i8 y]] w fun e w' => e = .returned (.bool (cellB s x y)) ∧ Below w.heap.size w w' := by
  rw [sp_vrow]
  have hB : Hid (Below w.heap.size w (w.alloc (.cells (vrow 2 (spAt x y)) 105))) := ((Below.refl w.heap.size w).alloc (by simp <;> omega) _)
  have R : Hid ((w.alloc (.cells (vrow 2 (spAt x y)) 105)).heap[(w.heap.size)]? = some (.cells (vrow 2 (spAt x y)) 105)) := heap_at _ _ _ (by simp)
  have P : Hid ((w.alloc (.cells (vrow 2 (spAt x y)) 105)).heap[b]? = some (.cells (vrow 266 s.at) 39)) := heap_past _ _ _ _ (by first | (have := row_lt hs; omega) | (have := row_lt hs; simp <;> omega)) (hs)
  by_cases hw : wOk s x y = true
  rotate_left
  · have hf0 := hf.wet (8 * y + x) (by omega)
    have h0 : s.wet (8 * y + x) < 0 ∨ 200 < s.wet (8 * y + x) := by simp [wOk] at hw; omega
    have hr : cellB s x y = false := by simp [cellB]; intro h; exact absurd h hw
    have HR := Go.Lib.hid hr; clear hr hw
    go_enter Tryd.func77, Tryd.ntmps77
    go_wp2
    (refine region_at (by kernel_rfl) (by kernel_rfl) ?_; intro W hW; rw [hW] at hB P R; clear hW; have P' := Go.Lib.hid (cls_row' P.out); have R' := Go.Lib.hid (cls_row' R.out); (repeat (first | go_big_quiet_skip | (refine wpQuiet_load1 23 _ rfl (by first | exact want_n rfl | exact want_g _ _ _ rfl rfl rfl) b _ rfl 266 s.at _ rw_i8 P'.out (by omega) ?_; (first | rw [Sh.at_0] | rw [Sh.at_1] | rw [Sh.at_wax1 _ _ (by omega)] | rw [Sh.at_wet1 _ _ (8 * y + x) (by omega) (by omega)] | rw [Sh.at_dye1 _ _ (24 * y + 3 * x) (by omega) (by omega)]); simp only [Act.put, List.setIfInBounds_toArray, List.set_cons_succ, List.set_cons_zero]) | (refine wpQuiet_load1 24 _ rfl (by first | exact want_n rfl | exact want_g _ _ _ rfl rfl rfl) b _ rfl 266 s.at _ rw_i16 P'.out (by omega) ?_; (first | rw [Sh.at_0] | rw [Sh.at_1] | rw [Sh.at_wax1 _ _ (by omega)] | rw [Sh.at_wet1 _ _ (8 * y + x) (by omega) (by omega)] | rw [Sh.at_dye1 _ _ (24 * y + 3 * x) (by omega) (by omega)]); simp only [Act.put, List.setIfInBounds_toArray, List.set_cons_succ, List.set_cons_zero]) | (refine wpQuiet_load1 23 _ rfl (by first | exact want_n rfl | exact want_g _ _ _ rfl rfl rfl) (w.heap.size) _ rfl 2 (spAt x y) _ rw_i8 R'.out (by omega) ?_; (first | rw [spAt_0] | rw [spAt_1]); simp only [Act.put, List.setIfInBounds_toArray, List.set_cons_succ, List.set_cons_zero]) | (refine wpQuiet_loadmid 105 _ rfl (by first | exact want_n rfl | exact want_g _ _ _ rfl rfl rfl) (w.heap.size) _ rfl 2 2 (spAt x y) _ rw_spot size_spot R'.out (by omega) ?_; rw [sp_row]; simp only [Act.put, List.setIfInBounds_toArray, List.set_cons_succ, List.set_cons_zero]) | go_big_quiet_step (fail))); refine wpQuiet_nil ?_; intro Wn hb; replace P := Go.Lib.hid (row_next hb P.out); replace R := Go.Lib.hid (row_next hb R.out); replace hB := Go.Lib.hid (below_next hB.out hb); clear hb P' R')
    go_wp2_with (first
      | (go_at_call 40; first | (refine (in_yes _ _ _ (by omega) (by omega) _).mono ?_; rintro e w1 ⟨rfl, hb⟩; replace P := Go.Lib.hid (row_next hb P.out); replace R := Go.Lib.hid (row_next hb R.out); replace hB := Go.Lib.hid (below_next hB.out hb); clear hb ) | (refine (in_no _ _ _ (by omega) _).mono ?_; rintro e w1 ⟨rfl, hb⟩; replace P := Go.Lib.hid (row_next hb P.out); replace R := Go.Lib.hid (row_next hb R.out); replace hB := Go.Lib.hid (below_next hB.out hb); clear hb ))
      | (refine list_at 51 rfl ?_; intro W hW; rw [hW] at hB P R; clear hW; have P' := Go.Lib.hid (cls_row' P.out); have R' := Go.Lib.hid (cls_row' R.out); (repeat (first | go_big_quiet_skip | (refine wpQuiet_load1 23 _ rfl (by first | exact want_n rfl | exact want_g _ _ _ rfl rfl rfl) b _ rfl 266 s.at _ rw_i8 P'.out (by omega) ?_; (first | rw [Sh.at_0] | rw [Sh.at_1] | rw [Sh.at_wax1 _ _ (by omega)] | rw [Sh.at_wet1 _ _ (8 * y + x) (by omega) (by omega)] | rw [Sh.at_dye1 _ _ (24 * y + 3 * x) (by omega) (by omega)]); simp only [Act.put, List.setIfInBounds_toArray, List.set_cons_succ, List.set_cons_zero]) | (refine wpQuiet_load1 24 _ rfl (by first | exact want_n rfl | exact want_g _ _ _ rfl rfl rfl) b _ rfl 266 s.at _ rw_i16 P'.out (by omega) ?_; (first | rw [Sh.at_0] | rw [Sh.at_1] | rw [Sh.at_wax1 _ _ (by omega)] | rw [Sh.at_wet1 _ _ (8 * y + x) (by omega) (by omega)] | rw [Sh.at_dye1 _ _ (24 * y + 3 * x) (by omega) (by omega)]); simp only [Act.put, List.setIfInBounds_toArray, List.set_cons_succ, List.set_cons_zero]) | (refine wpQuiet_load1 23 _ rfl (by first | exact want_n rfl | exact want_g _ _ _ rfl rfl rfl) (w.heap.size) _ rfl 2 (spAt x y) _ rw_i8 R'.out (by omega) ?_; (first | rw [spAt_0] | rw [spAt_1]); simp only [Act.put, List.setIfInBounds_toArray, List.set_cons_succ, List.set_cons_zero]) | (refine wpQuiet_loadmid 105 _ rfl (by first | exact want_n rfl | exact want_g _ _ _ rfl rfl rfl) (w.heap.size) _ rfl 2 2 (spAt x y) _ rw_spot size_spot R'.out (by omega) ?_; rw [sp_row]; simp only [Act.put, List.setIfInBounds_toArray, List.set_cons_succ, List.set_cons_zero]) | go_big_quiet_step ((go_at_call 40; first | exact cls_call _ (fun w hw => in_yes _ _ _ (by omega) (by omega) w) | exact cls_call _ (fun w hw => in_no _ _ _ (by omega) w))))); refine wpQuiet_nil ?_; intro Wn hb; replace P := Go.Lib.hid (row_next hb P.out); replace R := Go.Lib.hid (row_next hb R.out); replace hB := Go.Lib.hid (below_next hB.out hb); clear hb P' R'))
    go_ret
    exact ⟨by rw [HR.out]; rfl, hB.out⟩
  · have h0 : 0 ≤ s.wet (8 * y + x) ∧ s.wet (8 * y + x) ≤ 200 := by simpa [wOk] using hw
    obtain ⟨h0, h0'⟩ := h0
    have HWo := Go.Lib.hid hw; clear hw
    go_enter Tryd.func77, Tryd.ntmps77
    go_wp2
    (refine region_at (by kernel_rfl) (by kernel_rfl) ?_; intro W hW; rw [hW] at hB P R; clear hW; have P' := Go.Lib.hid (cls_row' P.out); have R' := Go.Lib.hid (cls_row' R.out); (repeat (first | go_big_quiet_skip | (refine wpQuiet_load1 23 _ rfl (by first | exact want_n rfl | exact want_g _ _ _ rfl rfl rfl) b _ rfl 266 s.at _ rw_i8 P'.out (by omega) ?_; (first | rw [Sh.at_0] | rw [Sh.at_1] | rw [Sh.at_wax1 _ _ (by omega)] | rw [Sh.at_wet1 _ _ (8 * y + x) (by omega) (by omega)] | rw [Sh.at_dye1 _ _ (24 * y + 3 * x) (by omega) (by omega)]); simp only [Act.put, List.setIfInBounds_toArray, List.set_cons_succ, List.set_cons_zero]) | (refine wpQuiet_load1 24 _ rfl (by first | exact want_n rfl | exact want_g _ _ _ rfl rfl rfl) b _ rfl 266 s.at _ rw_i16 P'.out (by omega) ?_; (first | rw [Sh.at_0] | rw [Sh.at_1] | rw [Sh.at_wax1 _ _ (by omega)] | rw [Sh.at_wet1 _ _ (8 * y + x) (by omega) (by omega)] | rw [Sh.at_dye1 _ _ (24 * y + 3 * x) (by omega) (by omega)]); simp only [Act.put, List.setIfInBounds_toArray, List.set_cons_succ, List.set_cons_zero]) | (refine wpQuiet_load1 23 _ rfl (by first | exact want_n rfl | exact want_g _ _ _ rfl rfl rfl) (w.heap.size) _ rfl 2 (spAt x y) _ rw_i8 R'.out (by omega) ?_; (first | rw [spAt_0] | rw [spAt_1]); simp only [Act.put, List.setIfInBounds_toArray, List.set_cons_succ, List.set_cons_zero]) | (refine wpQuiet_loadmid 105 _ rfl (by first | exact want_n rfl | exact want_g _ _ _ rfl rfl rfl) (w.heap.size) _ rfl 2 2 (spAt x y) _ rw_spot size_spot R'.out (by omega) ?_; rw [sp_row]; simp only [Act.put, List.setIfInBounds_toArray, List.set_cons_succ, List.set_cons_zero]) | go_big_quiet_step (fail))); refine wpQuiet_nil ?_; intro Wn hb; replace P := Go.Lib.hid (row_next hb P.out); replace R := Go.Lib.hid (row_next hb R.out); replace hB := Go.Lib.hid (below_next hB.out hb); clear hb P' R')
    go_wp2_with (first
      | (go_at_call 40; first | (refine (in_yes _ _ _ (by omega) (by omega) _).mono ?_; rintro e w1 ⟨rfl, hb⟩; replace P := Go.Lib.hid (row_next hb P.out); replace R := Go.Lib.hid (row_next hb R.out); replace hB := Go.Lib.hid (below_next hB.out hb); clear hb ) | (refine (in_no _ _ _ (by omega) _).mono ?_; rintro e w1 ⟨rfl, hb⟩; replace P := Go.Lib.hid (row_next hb P.out); replace R := Go.Lib.hid (row_next hb R.out); replace hB := Go.Lib.hid (below_next hB.out hb); clear hb ))
      | (refine list_at 51 rfl ?_; intro W hW; rw [hW] at hB P R; clear hW; have P' := Go.Lib.hid (cls_row' P.out); have R' := Go.Lib.hid (cls_row' R.out); (repeat (first | go_big_quiet_skip | (refine wpQuiet_load1 23 _ rfl (by first | exact want_n rfl | exact want_g _ _ _ rfl rfl rfl) b _ rfl 266 s.at _ rw_i8 P'.out (by omega) ?_; (first | rw [Sh.at_0] | rw [Sh.at_1] | rw [Sh.at_wax1 _ _ (by omega)] | rw [Sh.at_wet1 _ _ (8 * y + x) (by omega) (by omega)] | rw [Sh.at_dye1 _ _ (24 * y + 3 * x) (by omega) (by omega)]); simp only [Act.put, List.setIfInBounds_toArray, List.set_cons_succ, List.set_cons_zero]) | (refine wpQuiet_load1 24 _ rfl (by first | exact want_n rfl | exact want_g _ _ _ rfl rfl rfl) b _ rfl 266 s.at _ rw_i16 P'.out (by omega) ?_; (first | rw [Sh.at_0] | rw [Sh.at_1] | rw [Sh.at_wax1 _ _ (by omega)] | rw [Sh.at_wet1 _ _ (8 * y + x) (by omega) (by omega)] | rw [Sh.at_dye1 _ _ (24 * y + 3 * x) (by omega) (by omega)]); simp only [Act.put, List.setIfInBounds_toArray, List.set_cons_succ, List.set_cons_zero]) | (refine wpQuiet_load1 23 _ rfl (by first | exact want_n rfl | exact want_g _ _ _ rfl rfl rfl) (w.heap.size) _ rfl 2 (spAt x y) _ rw_i8 R'.out (by omega) ?_; (first | rw [spAt_0] | rw [spAt_1]); simp only [Act.put, List.setIfInBounds_toArray, List.set_cons_succ, List.set_cons_zero]) | (refine wpQuiet_loadmid 105 _ rfl (by first | exact want_n rfl | exact want_g _ _ _ rfl rfl rfl) (w.heap.size) _ rfl 2 2 (spAt x y) _ rw_spot size_spot R'.out (by omega) ?_; rw [sp_row]; simp only [Act.put, List.setIfInBounds_toArray, List.set_cons_succ, List.set_cons_zero]) | go_big_quiet_step ((go_at_call 40; first | exact cls_call _ (fun w hw => in_yes _ _ _ (by omega) (by omega) w) | exact cls_call _ (fun w hw => in_no _ _ _ (by omega) w))))); refine wpQuiet_nil ?_; intro Wn hb; replace P := Go.Lib.hid (row_next hb P.out); replace R := Go.Lib.hid (row_next hb R.out); replace hB := Go.Lib.hid (below_next hB.out hb); clear hb P' R'))
    go_loopw [6, 7] (fun sm i wr => ∃ k : Nat, k ≤ 3 ∧ i = .int .i64 k ∧ sm = .int .i64 (psum s x y k) ∧ (∀ j, j < k → dOk s x y j = true) ∧ Below w.heap.size w wr ∧ wr.heap[b]? = some (.cells (vrow 266 s.at) 39) ∧ wr.heap[w.heap.size]? = some (.cells (vrow 2 (spAt x y)) 105)) (fun _ i _ => 3 - (intOf i).toNat)
    case atStart => exact ⟨0, by omega, rfl, rfl, fun _ h => by omega, hB.out, P.out, R.out⟩
    case round =>
      clear hB P R
      obtain ⟨k, hk, rfl, rfl, hd, hB, P, R⟩ := hrel
      have hpb := psum_bd s x y HWo.out k hk hd
      obtain ⟨hp1, hp2⟩ := hpb
      have hf0 : k < 3 → -32768 ≤ s.dye (24 * y + 3 * x + k) ∧ s.dye (24 * y + 3 * x + k) ≤ 32767 := fun h => hf.dye (24 * y + 3 * x + k) (by omega)
      replace hB := Go.Lib.hid hB; replace P := Go.Lib.hid P; replace R := Go.Lib.hid R; replace hd := Go.Lib.hid hd
      by_cases hlt : k < 3
      · have hf1 := hf0 hlt
        clear hf0
        by_cases hdk : 0 ≤ s.dye (24 * y + 3 * x + k) ∧ s.dye (24 * y + 3 * x + k) ≤ 1000
        · obtain ⟨hd1, hd2⟩ := hdk
          go_wp2
          (refine region_at (by kernel_rfl) (by kernel_rfl) ?_; intro W hW; rw [hW] at hB P R; clear hW; have P' := Go.Lib.hid (cls_row' P.out); have R' := Go.Lib.hid (cls_row' R.out); (repeat (first | go_big_quiet_skip | (refine wpQuiet_load1 23 _ rfl (by first | exact want_n rfl | exact want_g _ _ _ rfl rfl rfl) b _ rfl 266 s.at _ rw_i8 P'.out (by omega) ?_; (first | rw [Sh.at_0] | rw [Sh.at_1] | rw [Sh.at_wet1 _ _ (8 * y + x) (by omega) (by omega)] | rw [Sh.at_dye1 _ _ (24 * y + 3 * x + k) (by omega) (by omega)]); simp only [Act.put, List.setIfInBounds_toArray, List.set_cons_succ, List.set_cons_zero]) | (refine wpQuiet_load1 24 _ rfl (by first | exact want_n rfl | exact want_g _ _ _ rfl rfl rfl) b _ rfl 266 s.at _ rw_i16 P'.out (by omega) ?_; (first | rw [Sh.at_0] | rw [Sh.at_1] | rw [Sh.at_wet1 _ _ (8 * y + x) (by omega) (by omega)] | rw [Sh.at_dye1 _ _ (24 * y + 3 * x + k) (by omega) (by omega)]); simp only [Act.put, List.setIfInBounds_toArray, List.set_cons_succ, List.set_cons_zero]) | (refine wpQuiet_load1 23 _ rfl (by first | exact want_n rfl | exact want_g _ _ _ rfl rfl rfl) (w.heap.size) _ rfl 2 (spAt x y) _ rw_i8 R'.out (by omega) ?_; (first | rw [spAt_0] | rw [spAt_1]); simp only [Act.put, List.setIfInBounds_toArray, List.set_cons_succ, List.set_cons_zero]) | (refine wpQuiet_loadmid 105 _ rfl (by first | exact want_n rfl | exact want_g _ _ _ rfl rfl rfl) (w.heap.size) _ rfl 2 2 (spAt x y) _ rw_spot size_spot R'.out (by omega) ?_; rw [sp_row]; simp only [Act.put, List.setIfInBounds_toArray, List.set_cons_succ, List.set_cons_zero]) | go_big_quiet_step (fail))); refine wpQuiet_nil ?_; intro Wn hb; replace P := Go.Lib.hid (row_next hb P.out); replace R := Go.Lib.hid (row_next hb R.out); replace hB := Go.Lib.hid (below_next hB.out hb); clear hb P' R')
          go_wp2_with (first
            | (go_at_call 40; first | (refine (in_yes _ _ _ (by omega) (by omega) _).mono ?_; rintro e w1 ⟨rfl, hb⟩; replace P := Go.Lib.hid (row_next hb P.out); replace R := Go.Lib.hid (row_next hb R.out); replace hB := Go.Lib.hid (below_next hB.out hb); clear hb ) | (refine (in_no _ _ _ (by omega) _).mono ?_; rintro e w1 ⟨rfl, hb⟩; replace P := Go.Lib.hid (row_next hb P.out); replace R := Go.Lib.hid (row_next hb R.out); replace hB := Go.Lib.hid (below_next hB.out hb); clear hb ))
            | (refine list_at 51 rfl ?_; intro W hW; rw [hW] at hB P R; clear hW; have P' := Go.Lib.hid (cls_row' P.out); have R' := Go.Lib.hid (cls_row' R.out); (repeat (first | go_big_quiet_skip | (refine wpQuiet_load1 23 _ rfl (by first | exact want_n rfl | exact want_g _ _ _ rfl rfl rfl) b _ rfl 266 s.at _ rw_i8 P'.out (by omega) ?_; (first | rw [Sh.at_0] | rw [Sh.at_1] | rw [Sh.at_wet1 _ _ (8 * y + x) (by omega) (by omega)] | rw [Sh.at_dye1 _ _ (24 * y + 3 * x + k) (by omega) (by omega)]); simp only [Act.put, List.setIfInBounds_toArray, List.set_cons_succ, List.set_cons_zero]) | (refine wpQuiet_load1 24 _ rfl (by first | exact want_n rfl | exact want_g _ _ _ rfl rfl rfl) b _ rfl 266 s.at _ rw_i16 P'.out (by omega) ?_; (first | rw [Sh.at_0] | rw [Sh.at_1] | rw [Sh.at_wet1 _ _ (8 * y + x) (by omega) (by omega)] | rw [Sh.at_dye1 _ _ (24 * y + 3 * x + k) (by omega) (by omega)]); simp only [Act.put, List.setIfInBounds_toArray, List.set_cons_succ, List.set_cons_zero]) | (refine wpQuiet_load1 23 _ rfl (by first | exact want_n rfl | exact want_g _ _ _ rfl rfl rfl) (w.heap.size) _ rfl 2 (spAt x y) _ rw_i8 R'.out (by omega) ?_; (first | rw [spAt_0] | rw [spAt_1]); simp only [Act.put, List.setIfInBounds_toArray, List.set_cons_succ, List.set_cons_zero]) | (refine wpQuiet_loadmid 105 _ rfl (by first | exact want_n rfl | exact want_g _ _ _ rfl rfl rfl) (w.heap.size) _ rfl 2 2 (spAt x y) _ rw_spot size_spot R'.out (by omega) ?_; rw [sp_row]; simp only [Act.put, List.setIfInBounds_toArray, List.set_cons_succ, List.set_cons_zero]) | go_big_quiet_step ((go_at_call 40; first | exact cls_call _ (fun w hw => in_yes _ _ _ (by omega) (by omega) w) | exact cls_call _ (fun w hw => in_no _ _ _ (by omega) w))))); refine wpQuiet_nil ?_; intro Wn hb; replace P := Go.Lib.hid (row_next hb P.out); replace R := Go.Lib.hid (row_next hb R.out); replace hB := Go.Lib.hid (below_next hB.out hb); clear hb P' R'))
          go_roundw
          case rel => exact ⟨k + 1, by omega, by go_num, rfl, fun j hj => if e : j = k then (by subst e; simp [dOk]; omega) else hd.out j (by omega), hB.out, P.out, R.out⟩
          case measure => simp [intOf]; omega
        · have hdk' : s.dye (24 * y + 3 * x + k) < 0 ∨ 1000 < s.dye (24 * y + 3 * x + k) := by omega
          have hr : cellB s x y = false := by
            have h1 : dOk s x y k = false := by simp [dOk]; omega
            have : k = 0 ∨ k = 1 ∨ k = 2 := by omega
            rcases this with rfl | rfl | rfl <;> simp [cellB, h1]
          have HR := Go.Lib.hid hr; clear hr hdk
          go_wp2
          (refine region_at (by kernel_rfl) (by kernel_rfl) ?_; intro W hW; rw [hW] at hB P R; clear hW; have P' := Go.Lib.hid (cls_row' P.out); have R' := Go.Lib.hid (cls_row' R.out); (repeat (first | go_big_quiet_skip | (refine wpQuiet_load1 23 _ rfl (by first | exact want_n rfl | exact want_g _ _ _ rfl rfl rfl) b _ rfl 266 s.at _ rw_i8 P'.out (by omega) ?_; (first | rw [Sh.at_0] | rw [Sh.at_1] | rw [Sh.at_wet1 _ _ (8 * y + x) (by omega) (by omega)] | rw [Sh.at_dye1 _ _ (24 * y + 3 * x + k) (by omega) (by omega)]); simp only [Act.put, List.setIfInBounds_toArray, List.set_cons_succ, List.set_cons_zero]) | (refine wpQuiet_load1 24 _ rfl (by first | exact want_n rfl | exact want_g _ _ _ rfl rfl rfl) b _ rfl 266 s.at _ rw_i16 P'.out (by omega) ?_; (first | rw [Sh.at_0] | rw [Sh.at_1] | rw [Sh.at_wet1 _ _ (8 * y + x) (by omega) (by omega)] | rw [Sh.at_dye1 _ _ (24 * y + 3 * x + k) (by omega) (by omega)]); simp only [Act.put, List.setIfInBounds_toArray, List.set_cons_succ, List.set_cons_zero]) | (refine wpQuiet_load1 23 _ rfl (by first | exact want_n rfl | exact want_g _ _ _ rfl rfl rfl) (w.heap.size) _ rfl 2 (spAt x y) _ rw_i8 R'.out (by omega) ?_; (first | rw [spAt_0] | rw [spAt_1]); simp only [Act.put, List.setIfInBounds_toArray, List.set_cons_succ, List.set_cons_zero]) | (refine wpQuiet_loadmid 105 _ rfl (by first | exact want_n rfl | exact want_g _ _ _ rfl rfl rfl) (w.heap.size) _ rfl 2 2 (spAt x y) _ rw_spot size_spot R'.out (by omega) ?_; rw [sp_row]; simp only [Act.put, List.setIfInBounds_toArray, List.set_cons_succ, List.set_cons_zero]) | go_big_quiet_step (fail))); refine wpQuiet_nil ?_; intro Wn hb; replace P := Go.Lib.hid (row_next hb P.out); replace R := Go.Lib.hid (row_next hb R.out); replace hB := Go.Lib.hid (below_next hB.out hb); clear hb P' R')
          go_wp2_with (first
            | (go_at_call 40; first | (refine (in_yes _ _ _ (by omega) (by omega) _).mono ?_; rintro e w1 ⟨rfl, hb⟩; replace P := Go.Lib.hid (row_next hb P.out); replace R := Go.Lib.hid (row_next hb R.out); replace hB := Go.Lib.hid (below_next hB.out hb); clear hb ) | (refine (in_no _ _ _ (by omega) _).mono ?_; rintro e w1 ⟨rfl, hb⟩; replace P := Go.Lib.hid (row_next hb P.out); replace R := Go.Lib.hid (row_next hb R.out); replace hB := Go.Lib.hid (below_next hB.out hb); clear hb ))
            | (refine list_at 51 rfl ?_; intro W hW; rw [hW] at hB P R; clear hW; have P' := Go.Lib.hid (cls_row' P.out); have R' := Go.Lib.hid (cls_row' R.out); (repeat (first | go_big_quiet_skip | (refine wpQuiet_load1 23 _ rfl (by first | exact want_n rfl | exact want_g _ _ _ rfl rfl rfl) b _ rfl 266 s.at _ rw_i8 P'.out (by omega) ?_; (first | rw [Sh.at_0] | rw [Sh.at_1] | rw [Sh.at_wet1 _ _ (8 * y + x) (by omega) (by omega)] | rw [Sh.at_dye1 _ _ (24 * y + 3 * x + k) (by omega) (by omega)]); simp only [Act.put, List.setIfInBounds_toArray, List.set_cons_succ, List.set_cons_zero]) | (refine wpQuiet_load1 24 _ rfl (by first | exact want_n rfl | exact want_g _ _ _ rfl rfl rfl) b _ rfl 266 s.at _ rw_i16 P'.out (by omega) ?_; (first | rw [Sh.at_0] | rw [Sh.at_1] | rw [Sh.at_wet1 _ _ (8 * y + x) (by omega) (by omega)] | rw [Sh.at_dye1 _ _ (24 * y + 3 * x + k) (by omega) (by omega)]); simp only [Act.put, List.setIfInBounds_toArray, List.set_cons_succ, List.set_cons_zero]) | (refine wpQuiet_load1 23 _ rfl (by first | exact want_n rfl | exact want_g _ _ _ rfl rfl rfl) (w.heap.size) _ rfl 2 (spAt x y) _ rw_i8 R'.out (by omega) ?_; (first | rw [spAt_0] | rw [spAt_1]); simp only [Act.put, List.setIfInBounds_toArray, List.set_cons_succ, List.set_cons_zero]) | (refine wpQuiet_loadmid 105 _ rfl (by first | exact want_n rfl | exact want_g _ _ _ rfl rfl rfl) (w.heap.size) _ rfl 2 2 (spAt x y) _ rw_spot size_spot R'.out (by omega) ?_; rw [sp_row]; simp only [Act.put, List.setIfInBounds_toArray, List.set_cons_succ, List.set_cons_zero]) | go_big_quiet_step ((go_at_call 40; first | exact cls_call _ (fun w hw => in_yes _ _ _ (by omega) (by omega) w) | exact cls_call _ (fun w hw => in_no _ _ _ (by omega) w))))); refine wpQuiet_nil ?_; intro Wn hb; replace P := Go.Lib.hid (row_next hb P.out); replace R := Go.Lib.hid (row_next hb R.out); replace hB := Go.Lib.hid (below_next hB.out hb); clear hb P' R'))
          go_ret
          exact ⟨by rw [HR.out]; rfl, hB.out⟩
      · obtain rfl : k = 3 := by omega
        have hc : cellB s x y = ((psum s x y 3 == 0) || (hasB s x y && !waxB s x y)) := by simp [cellB, HWo.out, hd.out 0 (by omega), hd.out 1 (by omega), hd.out 2 (by omega)]
        have HC := Go.Lib.hid hc
        have HI0 := fun w hs => is_any s b x y w hs hf (by omega) (by omega)
        have HW0 := fun w hs => lwaxed_any s b x y w hs hx hy
        clear hc hd hlt hf0
        by_cases hz : psum s x y 3 = 0
        · have HR := Go.Lib.hid (show cellB s x y = true by rw [HC.out]; simp [hz])
          clear HI0 HW0
          go_wp2_with (first
            | (go_at_call 75; (refine (HI.out _ P.out).mono ?_; rintro e w1 ⟨rfl, hb⟩; replace P := Go.Lib.hid (row_next hb P.out); replace R := Go.Lib.hid (row_next hb R.out); replace hB := Go.Lib.hid (below_next hB.out hb); clear hb ))
            | (go_at_call 76; (refine (HW.out _ P.out).mono ?_; rintro e w1 ⟨rfl, hb⟩; replace P := Go.Lib.hid (row_next hb P.out); replace R := Go.Lib.hid (row_next hb R.out); replace hB := Go.Lib.hid (below_next hB.out hb); clear hb ))
            | (refine list_at 51 rfl ?_; intro W hW; rw [hW] at hB P R; clear hW; have P' := Go.Lib.hid (cls_row' P.out); have R' := Go.Lib.hid (cls_row' R.out); (repeat (first | go_big_quiet_skip | (refine wpQuiet_load1 23 _ rfl (by first | exact want_n rfl | exact want_g _ _ _ rfl rfl rfl) b _ rfl 266 s.at _ rw_i8 P'.out (by omega) ?_; (first | rw [Sh.at_0] | rw [Sh.at_1] | rw [Sh.at_wet1 _ _ (8 * y + x) (by omega) (by omega)] | rw [Sh.at_dye1 _ _ (24 * y + 3 * x + k) (by omega) (by omega)]); simp only [Act.put, List.setIfInBounds_toArray, List.set_cons_succ, List.set_cons_zero]) | (refine wpQuiet_load1 24 _ rfl (by first | exact want_n rfl | exact want_g _ _ _ rfl rfl rfl) b _ rfl 266 s.at _ rw_i16 P'.out (by omega) ?_; (first | rw [Sh.at_0] | rw [Sh.at_1] | rw [Sh.at_wet1 _ _ (8 * y + x) (by omega) (by omega)] | rw [Sh.at_dye1 _ _ (24 * y + 3 * x + k) (by omega) (by omega)]); simp only [Act.put, List.setIfInBounds_toArray, List.set_cons_succ, List.set_cons_zero]) | (refine wpQuiet_load1 23 _ rfl (by first | exact want_n rfl | exact want_g _ _ _ rfl rfl rfl) (w.heap.size) _ rfl 2 (spAt x y) _ rw_i8 R'.out (by omega) ?_; (first | rw [spAt_0] | rw [spAt_1]); simp only [Act.put, List.setIfInBounds_toArray, List.set_cons_succ, List.set_cons_zero]) | (refine wpQuiet_loadmid 105 _ rfl (by first | exact want_n rfl | exact want_g _ _ _ rfl rfl rfl) (w.heap.size) _ rfl 2 2 (spAt x y) _ rw_spot size_spot R'.out (by omega) ?_; rw [sp_row]; simp only [Act.put, List.setIfInBounds_toArray, List.set_cons_succ, List.set_cons_zero]) | go_big_quiet_step (first | (go_at_call 75; exact cls_call _ (fun w hw => HI.out w (row_next hw P.out))) | (go_at_call 76; exact cls_call _ (fun w hw => HW.out w (row_next hw P.out)))))); refine wpQuiet_nil ?_; intro Wn hb; replace P := Go.Lib.hid (row_next hb P.out); replace R := Go.Lib.hid (row_next hb R.out); replace hB := Go.Lib.hid (below_next hB.out hb); clear hb P' R'))
          go_ret
          exact ⟨by rw [HR.out]; rfl, hB.out⟩
        · have hz' : (psum s x y 3 == 0) = false := by simpa using hz
          by_cases hh : hasB s x y = true
          · have HI := Go.Lib.hid HI0
            have HW := Go.Lib.hid HW0
            have HR := Go.Lib.hid (show cellB s x y = !waxB s x y by rw [HC.out]; simp [hz', hh])
            rw [hh] at HI
            clear HI0 HW0 hz hh HC
            go_wp2_with (first
              | (go_at_call 75; (refine (HI.out _ P.out).mono ?_; rintro e w1 ⟨rfl, hb⟩; replace P := Go.Lib.hid (row_next hb P.out); replace R := Go.Lib.hid (row_next hb R.out); replace hB := Go.Lib.hid (below_next hB.out hb); clear hb ))
              | (go_at_call 76; (refine (HW.out _ P.out).mono ?_; rintro e w1 ⟨rfl, hb⟩; replace P := Go.Lib.hid (row_next hb P.out); replace R := Go.Lib.hid (row_next hb R.out); replace hB := Go.Lib.hid (below_next hB.out hb); clear hb ))
              | (refine list_at 51 rfl ?_; intro W hW; rw [hW] at hB P R; clear hW; have P' := Go.Lib.hid (cls_row' P.out); have R' := Go.Lib.hid (cls_row' R.out); (repeat (first | go_big_quiet_skip | (refine wpQuiet_load1 23 _ rfl (by first | exact want_n rfl | exact want_g _ _ _ rfl rfl rfl) b _ rfl 266 s.at _ rw_i8 P'.out (by omega) ?_; (first | rw [Sh.at_0] | rw [Sh.at_1] | rw [Sh.at_wet1 _ _ (8 * y + x) (by omega) (by omega)] | rw [Sh.at_dye1 _ _ (24 * y + 3 * x + k) (by omega) (by omega)]); simp only [Act.put, List.setIfInBounds_toArray, List.set_cons_succ, List.set_cons_zero]) | (refine wpQuiet_load1 24 _ rfl (by first | exact want_n rfl | exact want_g _ _ _ rfl rfl rfl) b _ rfl 266 s.at _ rw_i16 P'.out (by omega) ?_; (first | rw [Sh.at_0] | rw [Sh.at_1] | rw [Sh.at_wet1 _ _ (8 * y + x) (by omega) (by omega)] | rw [Sh.at_dye1 _ _ (24 * y + 3 * x + k) (by omega) (by omega)]); simp only [Act.put, List.setIfInBounds_toArray, List.set_cons_succ, List.set_cons_zero]) | (refine wpQuiet_load1 23 _ rfl (by first | exact want_n rfl | exact want_g _ _ _ rfl rfl rfl) (w.heap.size) _ rfl 2 (spAt x y) _ rw_i8 R'.out (by omega) ?_; (first | rw [spAt_0] | rw [spAt_1]); simp only [Act.put, List.setIfInBounds_toArray, List.set_cons_succ, List.set_cons_zero]) | (refine wpQuiet_loadmid 105 _ rfl (by first | exact want_n rfl | exact want_g _ _ _ rfl rfl rfl) (w.heap.size) _ rfl 2 2 (spAt x y) _ rw_spot size_spot R'.out (by omega) ?_; rw [sp_row]; simp only [Act.put, List.setIfInBounds_toArray, List.set_cons_succ, List.set_cons_zero]) | go_big_quiet_step (first | (go_at_call 75; exact cls_call _ (fun w hw => HI.out w (row_next hw P.out))) | (go_at_call 76; exact cls_call _ (fun w hw => HW.out w (row_next hw P.out)))))); refine wpQuiet_nil ?_; intro Wn hb; replace P := Go.Lib.hid (row_next hb P.out); replace R := Go.Lib.hid (row_next hb R.out); replace hB := Go.Lib.hid (below_next hB.out hb); clear hb P' R'))
            go_ret
            exact ⟨by rw [HR.out]; rfl, hB.out⟩
          · have hh' : hasB s x y = false := by simpa using hh
            have HI := Go.Lib.hid HI0
            have HR := Go.Lib.hid (show cellB s x y = false by rw [HC.out]; simp [hz', hh'])
            rw [hh'] at HI
            clear HI0 HW0 hz hh hh' HC
            go_wp2_with (first
              | (go_at_call 75; (refine (HI.out _ P.out).mono ?_; rintro e w1 ⟨rfl, hb⟩; replace P := Go.Lib.hid (row_next hb P.out); replace R := Go.Lib.hid (row_next hb R.out); replace hB := Go.Lib.hid (below_next hB.out hb); clear hb ))
              | (go_at_call 76; (refine (HW.out _ P.out).mono ?_; rintro e w1 ⟨rfl, hb⟩; replace P := Go.Lib.hid (row_next hb P.out); replace R := Go.Lib.hid (row_next hb R.out); replace hB := Go.Lib.hid (below_next hB.out hb); clear hb ))
              | (refine list_at 51 rfl ?_; intro W hW; rw [hW] at hB P R; clear hW; have P' := Go.Lib.hid (cls_row' P.out); have R' := Go.Lib.hid (cls_row' R.out); (repeat (first | go_big_quiet_skip | (refine wpQuiet_load1 23 _ rfl (by first | exact want_n rfl | exact want_g _ _ _ rfl rfl rfl) b _ rfl 266 s.at _ rw_i8 P'.out (by omega) ?_; (first | rw [Sh.at_0] | rw [Sh.at_1] | rw [Sh.at_wet1 _ _ (8 * y + x) (by omega) (by omega)] | rw [Sh.at_dye1 _ _ (24 * y + 3 * x + k) (by omega) (by omega)]); simp only [Act.put, List.setIfInBounds_toArray, List.set_cons_succ, List.set_cons_zero]) | (refine wpQuiet_load1 24 _ rfl (by first | exact want_n rfl | exact want_g _ _ _ rfl rfl rfl) b _ rfl 266 s.at _ rw_i16 P'.out (by omega) ?_; (first | rw [Sh.at_0] | rw [Sh.at_1] | rw [Sh.at_wet1 _ _ (8 * y + x) (by omega) (by omega)] | rw [Sh.at_dye1 _ _ (24 * y + 3 * x + k) (by omega) (by omega)]); simp only [Act.put, List.setIfInBounds_toArray, List.set_cons_succ, List.set_cons_zero]) | (refine wpQuiet_load1 23 _ rfl (by first | exact want_n rfl | exact want_g _ _ _ rfl rfl rfl) (w.heap.size) _ rfl 2 (spAt x y) _ rw_i8 R'.out (by omega) ?_; (first | rw [spAt_0] | rw [spAt_1]); simp only [Act.put, List.setIfInBounds_toArray, List.set_cons_succ, List.set_cons_zero]) | (refine wpQuiet_loadmid 105 _ rfl (by first | exact want_n rfl | exact want_g _ _ _ rfl rfl rfl) (w.heap.size) _ rfl 2 2 (spAt x y) _ rw_spot size_spot R'.out (by omega) ?_; rw [sp_row]; simp only [Act.put, List.setIfInBounds_toArray, List.set_cons_succ, List.set_cons_zero]) | go_big_quiet_step (first | (go_at_call 75; exact cls_call _ (fun w hw => HI.out w (row_next hw P.out))) | (go_at_call 76; exact cls_call _ (fun w hw => HW.out w (row_next hw P.out)))))); refine wpQuiet_nil ?_; intro Wn hb; replace P := Go.Lib.hid (row_next hb P.out); replace R := Go.Lib.hid (row_next hb R.out); replace hB := Go.Lib.hid (below_next hB.out hb); clear hb P' R'))
            go_ret
            exact ⟨by rw [HR.out]; rfl, hB.out⟩
end Go.Proofs.YtfhfiaphdgfmnaaDoor
namespace Go.Proofs.YtfhfiaphdgfmnaaDoor
open Go.RowKit
set_option linter.unusedVariables false
def placeB (s : Sh) (x y : Nat) : Bool := (hasB s x y || !waxB s x y) && cellB s x y
def okB (s : Sh) : Bool := (decide (1 ≤ s.wide) && decide (s.wide ≤ 8)) && ((decide (1 ≤ s.high) && decide (s.high ≤ 8)) && (List.range 64).all fun i => placeB s (i % 8) (i / 8))
theorem okB_no (s : Sh) (i : Nat) (hi : i < 64) (h : placeB s (i % 8) (i / 8) = false) : okB s = false := by
  have : ((List.range 64).all fun i => placeB s (i % 8) (i / 8)) = false := by
    rw [List.all_eq_false]; exact ⟨i, by simpa using hi, by simp [h]⟩
  simp [okB, this]
theorem okB_yes (s : Sh) (h1 : 1 ≤ s.wide) (h2 : s.wide ≤ 8) (h3 : 1 ≤ s.high) (h4 : s.high ≤ 8) (h : ∀ i, i < 64 → placeB s (i % 8) (i / 8) = true) : okB s = true := by
  have : ((List.range 64).all fun i => placeB s (i % 8) (i / 8)) = true := by
    rw [List.all_eq_true]; intro i hi; exact h i (by simpa using hi)
  simp [okB, this, h1, h2, h3, h4]
theorem zero_spot : ∀ w, (zeroValue 105).run Tryd.prog w = .ok (.agg (vrow 2 (spAt 0 0))) w := fun _ => by kernel_rfl
theorem spAt_one (x y : Int) (i : Nat) : (spAt x y i).oneCell' = true := by unfold spAt; split <;> rfl
set_option maxHeartbeats 1000000 in
theorem ok_from (w0 : World) (s : Sh) (b : Nat) (w : World) (hs : w.heap[b]? = some (.cells s.row 39)) (hf : s.fit) (hB : Below w0.heap.size w0 w) : Calls Tryd.prog 39 #[.pointer (some ⟨b, 0, none⟩)] w fun e w' => e = .returned (.bool (okB s)) ∧ Below w0.heap.size w0 w' := by
  replace hB := Go.Lib.hid hB
  have P := Go.Lib.hid hs
  have hf1 := hf.wide; have hf2 := hf.high
  clear hs
  by_cases h1 : 1 ≤ s.wide ∧ s.wide ≤ 8
  rotate_left
  · have h1' : s.wide < 1 ∨ 8 < s.wide := by omega
    have HR := Go.Lib.hid (show okB s = false by simp only [okB]; rcases h1' with h | h <;> simp <;> omega)
    clear h1
    go_enter Tryd.func39, Tryd.ntmps39
    go_wp2_with (first
      | (go_at_call 40; first | (refine (in_yes _ _ _ (by omega) (by omega) _).mono ?_; rintro e w1 ⟨rfl, hb⟩; replace P := Go.Lib.hid (row_next hb P.out); replace hB := Go.Lib.hid (below_next hB.out hb); clear hb ) | (refine (in_no _ _ _ (by omega) _).mono ?_; rintro e w1 ⟨rfl, hb⟩; replace P := Go.Lib.hid (row_next hb P.out); replace hB := Go.Lib.hid (below_next hB.out hb); clear hb ))
      | (refine list_at 9 rfl ?_; intro W hW; rw [hW] at hB P; clear hW; have P' := Go.Lib.hid (cls_row' P.out); (repeat (first | go_big_quiet_skip | (refine wpQuiet_load1 23 _ rfl (by first | exact want_n rfl | exact want_g _ _ _ rfl rfl rfl) b _ rfl 266 s.at _ rw_i8 P'.out (by omega) ?_; (first | rw [Sh.at_0] | rw [Sh.at_1] | rw [Sh.at_wax1 _ _ (by omega)] | rw [Sh.at_wet1 _ _ (8 * y + x) (by omega) (by omega)] | rw [Sh.at_dye1 _ _ (24 * y + 3 * x) (by omega) (by omega)]); simp only [Act.put, List.setIfInBounds_toArray, List.set_cons_succ, List.set_cons_zero]) | go_big_quiet_step ((go_at_call 40; first | exact cls_call _ (fun w hw => in_yes _ _ _ (by omega) (by omega) w) | exact cls_call _ (fun w hw => in_no _ _ _ (by omega) w))))); refine wpQuiet_nil ?_; intro Wn hb; replace P := Go.Lib.hid (row_next hb P.out); replace hB := Go.Lib.hid (below_next hB.out hb); clear hb P')
      | (refine list_at 34 rfl ?_; intro W hW; rw [hW] at hB P; clear hW; have P' := Go.Lib.hid (cls_row' P.out); (repeat (first | go_big_quiet_skip | (refine wpQuiet_load1 23 _ rfl (by first | exact want_n rfl | exact want_g _ _ _ rfl rfl rfl) b _ rfl 266 s.at _ rw_i8 P'.out (by omega) ?_; (first | rw [Sh.at_0] | rw [Sh.at_1] | rw [Sh.at_wax1 _ _ (by omega)] | rw [Sh.at_wet1 _ _ (8 * y + x) (by omega) (by omega)] | rw [Sh.at_dye1 _ _ (24 * y + 3 * x) (by omega) (by omega)]); simp only [Act.put, List.setIfInBounds_toArray, List.set_cons_succ, List.set_cons_zero]) | go_big_quiet_step ((go_at_call 40; first | exact cls_call _ (fun w hw => in_yes _ _ _ (by omega) (by omega) w) | exact cls_call _ (fun w hw => in_no _ _ _ (by omega) w))))); refine wpQuiet_nil ?_; intro Wn hb; replace P := Go.Lib.hid (row_next hb P.out); replace hB := Go.Lib.hid (below_next hB.out hb); clear hb P')
      | (refine list_at 43 rfl ?_; intro W hW; rw [hW] at hB P; clear hW; have P' := Go.Lib.hid (cls_row' P.out); (repeat (first | go_big_quiet_skip | (refine wpQuiet_load1 23 _ rfl (by first | exact want_n rfl | exact want_g _ _ _ rfl rfl rfl) b _ rfl 266 s.at _ rw_i8 P'.out (by omega) ?_; (first | rw [Sh.at_0] | rw [Sh.at_1] | rw [Sh.at_wax1 _ _ (by omega)] | rw [Sh.at_wet1 _ _ (8 * y + x) (by omega) (by omega)] | rw [Sh.at_dye1 _ _ (24 * y + 3 * x) (by omega) (by omega)]); simp only [Act.put, List.setIfInBounds_toArray, List.set_cons_succ, List.set_cons_zero]) | go_big_quiet_step ((go_at_call 40; first | exact cls_call _ (fun w hw => in_yes _ _ _ (by omega) (by omega) w) | exact cls_call _ (fun w hw => in_no _ _ _ (by omega) w))))); refine wpQuiet_nil ?_; intro Wn hb; replace P := Go.Lib.hid (row_next hb P.out); replace hB := Go.Lib.hid (below_next hB.out hb); clear hb P'))
    go_ret
    exact ⟨by rw [HR.out]; rfl, hB.out⟩
  · obtain ⟨h1, h2⟩ := h1
    by_cases h3 : 1 ≤ s.high ∧ s.high ≤ 8
    rotate_left
    · have h3' : s.high < 1 ∨ 8 < s.high := by omega
      have HR := Go.Lib.hid (show okB s = false by simp only [okB]; rcases h3' with h | h <;> simp <;> omega)
      clear h3
      go_enter Tryd.func39, Tryd.ntmps39
      go_wp2_with (first
        | (go_at_call 40; first | (refine (in_yes _ _ _ (by omega) (by omega) _).mono ?_; rintro e w1 ⟨rfl, hb⟩; replace P := Go.Lib.hid (row_next hb P.out); replace hB := Go.Lib.hid (below_next hB.out hb); clear hb ) | (refine (in_no _ _ _ (by omega) _).mono ?_; rintro e w1 ⟨rfl, hb⟩; replace P := Go.Lib.hid (row_next hb P.out); replace hB := Go.Lib.hid (below_next hB.out hb); clear hb ))
        | (refine list_at 9 rfl ?_; intro W hW; rw [hW] at hB P; clear hW; have P' := Go.Lib.hid (cls_row' P.out); (repeat (first | go_big_quiet_skip | (refine wpQuiet_load1 23 _ rfl (by first | exact want_n rfl | exact want_g _ _ _ rfl rfl rfl) b _ rfl 266 s.at _ rw_i8 P'.out (by omega) ?_; (first | rw [Sh.at_0] | rw [Sh.at_1] | rw [Sh.at_wax1 _ _ (by omega)] | rw [Sh.at_wet1 _ _ (8 * y + x) (by omega) (by omega)] | rw [Sh.at_dye1 _ _ (24 * y + 3 * x) (by omega) (by omega)]); simp only [Act.put, List.setIfInBounds_toArray, List.set_cons_succ, List.set_cons_zero]) | go_big_quiet_step ((go_at_call 40; first | exact cls_call _ (fun w hw => in_yes _ _ _ (by omega) (by omega) w) | exact cls_call _ (fun w hw => in_no _ _ _ (by omega) w))))); refine wpQuiet_nil ?_; intro Wn hb; replace P := Go.Lib.hid (row_next hb P.out); replace hB := Go.Lib.hid (below_next hB.out hb); clear hb P')
        | (refine list_at 34 rfl ?_; intro W hW; rw [hW] at hB P; clear hW; have P' := Go.Lib.hid (cls_row' P.out); (repeat (first | go_big_quiet_skip | (refine wpQuiet_load1 23 _ rfl (by first | exact want_n rfl | exact want_g _ _ _ rfl rfl rfl) b _ rfl 266 s.at _ rw_i8 P'.out (by omega) ?_; (first | rw [Sh.at_0] | rw [Sh.at_1] | rw [Sh.at_wax1 _ _ (by omega)] | rw [Sh.at_wet1 _ _ (8 * y + x) (by omega) (by omega)] | rw [Sh.at_dye1 _ _ (24 * y + 3 * x) (by omega) (by omega)]); simp only [Act.put, List.setIfInBounds_toArray, List.set_cons_succ, List.set_cons_zero]) | go_big_quiet_step ((go_at_call 40; first | exact cls_call _ (fun w hw => in_yes _ _ _ (by omega) (by omega) w) | exact cls_call _ (fun w hw => in_no _ _ _ (by omega) w))))); refine wpQuiet_nil ?_; intro Wn hb; replace P := Go.Lib.hid (row_next hb P.out); replace hB := Go.Lib.hid (below_next hB.out hb); clear hb P')
        | (refine list_at 43 rfl ?_; intro W hW; rw [hW] at hB P; clear hW; have P' := Go.Lib.hid (cls_row' P.out); (repeat (first | go_big_quiet_skip | (refine wpQuiet_load1 23 _ rfl (by first | exact want_n rfl | exact want_g _ _ _ rfl rfl rfl) b _ rfl 266 s.at _ rw_i8 P'.out (by omega) ?_; (first | rw [Sh.at_0] | rw [Sh.at_1] | rw [Sh.at_wax1 _ _ (by omega)] | rw [Sh.at_wet1 _ _ (8 * y + x) (by omega) (by omega)] | rw [Sh.at_dye1 _ _ (24 * y + 3 * x) (by omega) (by omega)]); simp only [Act.put, List.setIfInBounds_toArray, List.set_cons_succ, List.set_cons_zero]) | go_big_quiet_step ((go_at_call 40; first | exact cls_call _ (fun w hw => in_yes _ _ _ (by omega) (by omega) w) | exact cls_call _ (fun w hw => in_no _ _ _ (by omega) w))))); refine wpQuiet_nil ?_; intro Wn hb; replace P := Go.Lib.hid (row_next hb P.out); replace hB := Go.Lib.hid (below_next hB.out hb); clear hb P'))
      go_ret
      exact ⟨by rw [HR.out]; rfl, hB.out⟩
    · obtain ⟨h3, h4⟩ := h3
      go_enter Tryd.func39, Tryd.ntmps39
      go_wp2_with (first
        | (go_at_call 40; first | (refine (in_yes _ _ _ (by omega) (by omega) _).mono ?_; rintro e w1 ⟨rfl, hb⟩; replace P := Go.Lib.hid (row_next hb P.out); replace hB := Go.Lib.hid (below_next hB.out hb); clear hb ) | (refine (in_no _ _ _ (by omega) _).mono ?_; rintro e w1 ⟨rfl, hb⟩; replace P := Go.Lib.hid (row_next hb P.out); replace hB := Go.Lib.hid (below_next hB.out hb); clear hb ))
        | (refine list_at 9 rfl ?_; intro W hW; rw [hW] at hB P; clear hW; have P' := Go.Lib.hid (cls_row' P.out); (repeat (first | go_big_quiet_skip | (refine wpQuiet_load1 23 _ rfl (by first | exact want_n rfl | exact want_g _ _ _ rfl rfl rfl) b _ rfl 266 s.at _ rw_i8 P'.out (by omega) ?_; (first | rw [Sh.at_0] | rw [Sh.at_1] | rw [Sh.at_wax1 _ _ (by omega)] | rw [Sh.at_wet1 _ _ (8 * y + x) (by omega) (by omega)] | rw [Sh.at_dye1 _ _ (24 * y + 3 * x) (by omega) (by omega)]); simp only [Act.put, List.setIfInBounds_toArray, List.set_cons_succ, List.set_cons_zero]) | go_big_quiet_step ((go_at_call 40; first | exact cls_call _ (fun w hw => in_yes _ _ _ (by omega) (by omega) w) | exact cls_call _ (fun w hw => in_no _ _ _ (by omega) w))))); refine wpQuiet_nil ?_; intro Wn hb; replace P := Go.Lib.hid (row_next hb P.out); replace hB := Go.Lib.hid (below_next hB.out hb); clear hb P')
        | (refine list_at 34 rfl ?_; intro W hW; rw [hW] at hB P; clear hW; have P' := Go.Lib.hid (cls_row' P.out); (repeat (first | go_big_quiet_skip | (refine wpQuiet_load1 23 _ rfl (by first | exact want_n rfl | exact want_g _ _ _ rfl rfl rfl) b _ rfl 266 s.at _ rw_i8 P'.out (by omega) ?_; (first | rw [Sh.at_0] | rw [Sh.at_1] | rw [Sh.at_wax1 _ _ (by omega)] | rw [Sh.at_wet1 _ _ (8 * y + x) (by omega) (by omega)] | rw [Sh.at_dye1 _ _ (24 * y + 3 * x) (by omega) (by omega)]); simp only [Act.put, List.setIfInBounds_toArray, List.set_cons_succ, List.set_cons_zero]) | go_big_quiet_step ((go_at_call 40; first | exact cls_call _ (fun w hw => in_yes _ _ _ (by omega) (by omega) w) | exact cls_call _ (fun w hw => in_no _ _ _ (by omega) w))))); refine wpQuiet_nil ?_; intro Wn hb; replace P := Go.Lib.hid (row_next hb P.out); replace hB := Go.Lib.hid (below_next hB.out hb); clear hb P')
        | (refine list_at 43 rfl ?_; intro W hW; rw [hW] at hB P; clear hW; have P' := Go.Lib.hid (cls_row' P.out); (repeat (first | go_big_quiet_skip | (refine wpQuiet_load1 23 _ rfl (by first | exact want_n rfl | exact want_g _ _ _ rfl rfl rfl) b _ rfl 266 s.at _ rw_i8 P'.out (by omega) ?_; (first | rw [Sh.at_0] | rw [Sh.at_1] | rw [Sh.at_wax1 _ _ (by omega)] | rw [Sh.at_wet1 _ _ (8 * y + x) (by omega) (by omega)] | rw [Sh.at_dye1 _ _ (24 * y + 3 * x) (by omega) (by omega)]); simp only [Act.put, List.setIfInBounds_toArray, List.set_cons_succ, List.set_cons_zero]) | go_big_quiet_step ((go_at_call 40; first | exact cls_call _ (fun w hw => in_yes _ _ _ (by omega) (by omega) w) | exact cls_call _ (fun w hw => in_no _ _ _ (by omega) w))))); refine wpQuiet_nil ?_; intro Wn hb; replace P := Go.Lib.hid (row_next hb P.out); replace hB := Go.Lib.hid (below_next hB.out hb); clear hb P'))
      go_loopw [3] (fun y wr => ∃ k : Nat, k ≤ 8 ∧ y = .int .i8 k ∧ (∀ i, i < 8 * k → placeB s (i % 8) (i / 8) = true) ∧ Below w0.heap.size w0 wr ∧ wr.heap[b]? = some (.cells (vrow 266 s.at) 39)) (fun y _ => 8 - (intOf y).toNat)
      case atStart => exact ⟨0, by omega, rfl, fun _ h => by omega, hB.out, P.out⟩
      case round =>
        clear hB P
        obtain ⟨k, hk, rfl, hd, hB, P⟩ := hrel
        replace hB := Go.Lib.hid hB; replace P := Go.Lib.hid P; replace hd := Go.Lib.hid hd
        by_cases hlt : k < 8
        · have hdk : decide ((k : Int) < 8) = true := by simp; omega
          go_wp2
          obtain ⟨wo, hwo⟩ : ∃ wo : World, wo = wr := ⟨_, rfl⟩
          rw [← hwo] at hB P ⊢
          clear hwo wr
          go_loopw [4] (fun x wr => ∃ j : Nat, j ≤ 8 ∧ x = .int .i8 j ∧ (∀ i, i < 8 * k + j → placeB s (i % 8) (i / 8) = true) ∧ Below w0.heap.size w0 wr ∧ wr.heap[b]? = some (.cells (vrow 266 s.at) 39)) (fun x _ => 8 - (intOf x).toNat)
          case atStart => exact ⟨0, by omega, rfl, fun i h => hd.out i (by omega), hB.out, P.out⟩
          case round =>
            clear hB P hd
            obtain ⟨j, hj, rfl, hd, hB, P⟩ := hrel
            replace hB := Go.Lib.hid hB; replace P := Go.Lib.hid P; replace hd := Go.Lib.hid hd
            have zz := zero_spot
            by_cases hlj : j < 8
            · have e1 : (8 * k + j) % 8 = j := by omega
              have e2 : (8 * k + j) / 8 = k := by omega
              have hno : placeB s j k = false → okB s = false := fun h => okB_no s (8 * k + j) (by omega) (by rw [e1, e2]; exact h)
              have hgo : placeB s j k = true → ∀ i, i < 8 * k + (j + 1) → placeB s (i % 8) (i / 8) = true := fun h i hi => if e : i = 8 * k + j then (by rw [e, e1, e2]; exact h) else hd.out i (by omega)
              have HI0 := fun w hs => is_any s b j k w hs hf (by omega) (by omega)
              have HW0 := fun w hs => lwaxed_any s b j k w hs hlj hlt
              have HC0 := fun w hs => cell_any s b j k w hs hf hlj hlt
              clear e1 e2 hd
              by_cases hh : hasB s j k = true
              · by_cases hc : cellB s j k = true
                · have HG := Go.Lib.hid (hgo (by simp [placeB, hh, hc]))
                  have HI := Go.Lib.hid HI0; have HC := Go.Lib.hid HC0
                  rw [hh] at HI; rw [hc] at HC
                  clear HI0 HW0 HC0 hno hgo hh hc
                  go_wp2_with (first
                    | (refine wpList_storeall rfl 105 (.tmp 5) (.tmp 32) rfl _ rfl 2 (spAt 0 0) (spAt j k) rfl 105 size_spot (heap_at _ _ _ rfl) (fun i _ => spAt_one _ _ i) ?_; rw [setRow_at _ _ _ _ _ rfl]; have R := Go.Lib.hid (heap_at wr (.cells (vrow 2 (spAt j k)) 105) _ rfl); replace P := Go.Lib.hid (heap_past wr (.cells (vrow 2 (spAt j k)) 105) _ _ (row_lt P.out) P.out); replace hB := Go.Lib.hid (hB.out.alloc hB.out.size (.cells (vrow 2 (spAt j k)) 105)))
                    | (go_at_call 75; (refine (HI.out _ P.out).mono ?_; rintro e w1 ⟨rfl, hb⟩; replace P := Go.Lib.hid (row_next hb P.out); replace R := Go.Lib.hid (row_next hb R.out); replace hB := Go.Lib.hid (below_next hB.out hb); clear hb ))
                    | (go_at_call 76; (refine (HW.out _ P.out).mono ?_; rintro e w1 ⟨rfl, hb⟩; replace P := Go.Lib.hid (row_next hb P.out); replace R := Go.Lib.hid (row_next hb R.out); replace hB := Go.Lib.hid (below_next hB.out hb); clear hb ))
                    | (go_at_call 77; (refine (HC.out _ P.out).mono ?_; rintro e w1 ⟨rfl, hb⟩; replace P := Go.Lib.hid (row_next hb P.out); replace R := Go.Lib.hid (row_next hb R.out); replace hB := Go.Lib.hid (below_next hB.out hb); clear hb ))
                    | (refine list_at 9 rfl ?_; intro W hW; rw [hW] at hB P R; clear hW; have P' := Go.Lib.hid (cls_row' P.out); have R' := Go.Lib.hid (cls_row' R.out); (repeat (first | go_big_quiet_skip | (refine wpQuiet_loadmid 105 _ rfl (by first | exact want_n rfl | exact want_g _ _ _ rfl rfl rfl) (wr.heap.size) _ rfl 2 2 (spAt j k) _ rw_spot size_spot R'.out (by omega) ?_; rw [sp_row]; simp only [Act.put, List.setIfInBounds_toArray, List.set_cons_succ, List.set_cons_zero]) | go_big_quiet_step (first | (go_at_call 75; exact cls_call _ (fun w hw => HI.out w (row_next hw P.out))) | (go_at_call 76; exact cls_call _ (fun w hw => HW.out w (row_next hw P.out))) | (go_at_call 77; exact cls_call _ (fun w hw => HC.out w (row_next hw P.out)))))); refine wpQuiet_nil ?_; intro Wn hb; replace P := Go.Lib.hid (row_next hb P.out); replace R := Go.Lib.hid (row_next hb R.out); replace hB := Go.Lib.hid (below_next hB.out hb); clear hb P' R')
                    | (refine list_at 34 rfl ?_; intro W hW; rw [hW] at hB P R; clear hW; have P' := Go.Lib.hid (cls_row' P.out); have R' := Go.Lib.hid (cls_row' R.out); (repeat (first | go_big_quiet_skip | (refine wpQuiet_loadmid 105 _ rfl (by first | exact want_n rfl | exact want_g _ _ _ rfl rfl rfl) (wr.heap.size) _ rfl 2 2 (spAt j k) _ rw_spot size_spot R'.out (by omega) ?_; rw [sp_row]; simp only [Act.put, List.setIfInBounds_toArray, List.set_cons_succ, List.set_cons_zero]) | go_big_quiet_step (first | (go_at_call 75; exact cls_call _ (fun w hw => HI.out w (row_next hw P.out))) | (go_at_call 76; exact cls_call _ (fun w hw => HW.out w (row_next hw P.out))) | (go_at_call 77; exact cls_call _ (fun w hw => HC.out w (row_next hw P.out)))))); refine wpQuiet_nil ?_; intro Wn hb; replace P := Go.Lib.hid (row_next hb P.out); replace R := Go.Lib.hid (row_next hb R.out); replace hB := Go.Lib.hid (below_next hB.out hb); clear hb P' R')
                    | (refine list_at 43 rfl ?_; intro W hW; rw [hW] at hB P R; clear hW; have P' := Go.Lib.hid (cls_row' P.out); have R' := Go.Lib.hid (cls_row' R.out); (repeat (first | go_big_quiet_skip | (refine wpQuiet_loadmid 105 _ rfl (by first | exact want_n rfl | exact want_g _ _ _ rfl rfl rfl) (wr.heap.size) _ rfl 2 2 (spAt j k) _ rw_spot size_spot R'.out (by omega) ?_; rw [sp_row]; simp only [Act.put, List.setIfInBounds_toArray, List.set_cons_succ, List.set_cons_zero]) | go_big_quiet_step (first | (go_at_call 75; exact cls_call _ (fun w hw => HI.out w (row_next hw P.out))) | (go_at_call 76; exact cls_call _ (fun w hw => HW.out w (row_next hw P.out))) | (go_at_call 77; exact cls_call _ (fun w hw => HC.out w (row_next hw P.out)))))); refine wpQuiet_nil ?_; intro Wn hb; replace P := Go.Lib.hid (row_next hb P.out); replace R := Go.Lib.hid (row_next hb R.out); replace hB := Go.Lib.hid (below_next hB.out hb); clear hb P' R'))
                  go_roundw
                  case rel => exact ⟨j + 1, by omega, by go_num, HG.out, hB.out, P.out⟩
                  case measure => simp [intOf]; omega
                · have hc' : cellB s j k = false := by simpa using hc
                  have HR := Go.Lib.hid (hno (by simp [placeB, hc']))
                  have HI := Go.Lib.hid HI0; have HC := Go.Lib.hid HC0
                  rw [hh] at HI; rw [hc'] at HC
                  clear HI0 HW0 HC0 hno hgo hh hc hc'
                  go_wp2_with (first
                    | (refine wpList_storeall rfl 105 (.tmp 5) (.tmp 32) rfl _ rfl 2 (spAt 0 0) (spAt j k) rfl 105 size_spot (heap_at _ _ _ rfl) (fun i _ => spAt_one _ _ i) ?_; rw [setRow_at _ _ _ _ _ rfl]; have R := Go.Lib.hid (heap_at wr (.cells (vrow 2 (spAt j k)) 105) _ rfl); replace P := Go.Lib.hid (heap_past wr (.cells (vrow 2 (spAt j k)) 105) _ _ (row_lt P.out) P.out); replace hB := Go.Lib.hid (hB.out.alloc hB.out.size (.cells (vrow 2 (spAt j k)) 105)))
                    | (go_at_call 75; (refine (HI.out _ P.out).mono ?_; rintro e w1 ⟨rfl, hb⟩; replace P := Go.Lib.hid (row_next hb P.out); replace R := Go.Lib.hid (row_next hb R.out); replace hB := Go.Lib.hid (below_next hB.out hb); clear hb ))
                    | (go_at_call 76; (refine (HW.out _ P.out).mono ?_; rintro e w1 ⟨rfl, hb⟩; replace P := Go.Lib.hid (row_next hb P.out); replace R := Go.Lib.hid (row_next hb R.out); replace hB := Go.Lib.hid (below_next hB.out hb); clear hb ))
                    | (go_at_call 77; (refine (HC.out _ P.out).mono ?_; rintro e w1 ⟨rfl, hb⟩; replace P := Go.Lib.hid (row_next hb P.out); replace R := Go.Lib.hid (row_next hb R.out); replace hB := Go.Lib.hid (below_next hB.out hb); clear hb ))
                    | (refine list_at 9 rfl ?_; intro W hW; rw [hW] at hB P R; clear hW; have P' := Go.Lib.hid (cls_row' P.out); have R' := Go.Lib.hid (cls_row' R.out); (repeat (first | go_big_quiet_skip | (refine wpQuiet_loadmid 105 _ rfl (by first | exact want_n rfl | exact want_g _ _ _ rfl rfl rfl) (wr.heap.size) _ rfl 2 2 (spAt j k) _ rw_spot size_spot R'.out (by omega) ?_; rw [sp_row]; simp only [Act.put, List.setIfInBounds_toArray, List.set_cons_succ, List.set_cons_zero]) | go_big_quiet_step (first | (go_at_call 75; exact cls_call _ (fun w hw => HI.out w (row_next hw P.out))) | (go_at_call 76; exact cls_call _ (fun w hw => HW.out w (row_next hw P.out))) | (go_at_call 77; exact cls_call _ (fun w hw => HC.out w (row_next hw P.out)))))); refine wpQuiet_nil ?_; intro Wn hb; replace P := Go.Lib.hid (row_next hb P.out); replace R := Go.Lib.hid (row_next hb R.out); replace hB := Go.Lib.hid (below_next hB.out hb); clear hb P' R')
                    | (refine list_at 34 rfl ?_; intro W hW; rw [hW] at hB P R; clear hW; have P' := Go.Lib.hid (cls_row' P.out); have R' := Go.Lib.hid (cls_row' R.out); (repeat (first | go_big_quiet_skip | (refine wpQuiet_loadmid 105 _ rfl (by first | exact want_n rfl | exact want_g _ _ _ rfl rfl rfl) (wr.heap.size) _ rfl 2 2 (spAt j k) _ rw_spot size_spot R'.out (by omega) ?_; rw [sp_row]; simp only [Act.put, List.setIfInBounds_toArray, List.set_cons_succ, List.set_cons_zero]) | go_big_quiet_step (first | (go_at_call 75; exact cls_call _ (fun w hw => HI.out w (row_next hw P.out))) | (go_at_call 76; exact cls_call _ (fun w hw => HW.out w (row_next hw P.out))) | (go_at_call 77; exact cls_call _ (fun w hw => HC.out w (row_next hw P.out)))))); refine wpQuiet_nil ?_; intro Wn hb; replace P := Go.Lib.hid (row_next hb P.out); replace R := Go.Lib.hid (row_next hb R.out); replace hB := Go.Lib.hid (below_next hB.out hb); clear hb P' R')
                    | (refine list_at 43 rfl ?_; intro W hW; rw [hW] at hB P R; clear hW; have P' := Go.Lib.hid (cls_row' P.out); have R' := Go.Lib.hid (cls_row' R.out); (repeat (first | go_big_quiet_skip | (refine wpQuiet_loadmid 105 _ rfl (by first | exact want_n rfl | exact want_g _ _ _ rfl rfl rfl) (wr.heap.size) _ rfl 2 2 (spAt j k) _ rw_spot size_spot R'.out (by omega) ?_; rw [sp_row]; simp only [Act.put, List.setIfInBounds_toArray, List.set_cons_succ, List.set_cons_zero]) | go_big_quiet_step (first | (go_at_call 75; exact cls_call _ (fun w hw => HI.out w (row_next hw P.out))) | (go_at_call 76; exact cls_call _ (fun w hw => HW.out w (row_next hw P.out))) | (go_at_call 77; exact cls_call _ (fun w hw => HC.out w (row_next hw P.out)))))); refine wpQuiet_nil ?_; intro Wn hb; replace P := Go.Lib.hid (row_next hb P.out); replace R := Go.Lib.hid (row_next hb R.out); replace hB := Go.Lib.hid (below_next hB.out hb); clear hb P' R'))
                  go_ret
                  exact ⟨by rw [HR.out]; rfl, hB.out⟩
              · have hh' : hasB s j k = false := by simpa using hh
                by_cases hw : waxB s j k = true
                · have HR := Go.Lib.hid (hno (by simp [placeB, hh', hw]))
                  have HI := Go.Lib.hid HI0; have HW := Go.Lib.hid HW0
                  rw [hh'] at HI; rw [hw] at HW
                  clear HI0 HW0 HC0 hno hgo hh hh' hw
                  go_wp2_with (first
                    | (refine wpList_storeall rfl 105 (.tmp 5) (.tmp 32) rfl _ rfl 2 (spAt 0 0) (spAt j k) rfl 105 size_spot (heap_at _ _ _ rfl) (fun i _ => spAt_one _ _ i) ?_; rw [setRow_at _ _ _ _ _ rfl]; have R := Go.Lib.hid (heap_at wr (.cells (vrow 2 (spAt j k)) 105) _ rfl); replace P := Go.Lib.hid (heap_past wr (.cells (vrow 2 (spAt j k)) 105) _ _ (row_lt P.out) P.out); replace hB := Go.Lib.hid (hB.out.alloc hB.out.size (.cells (vrow 2 (spAt j k)) 105)))
                    | (go_at_call 75; (refine (HI.out _ P.out).mono ?_; rintro e w1 ⟨rfl, hb⟩; replace P := Go.Lib.hid (row_next hb P.out); replace R := Go.Lib.hid (row_next hb R.out); replace hB := Go.Lib.hid (below_next hB.out hb); clear hb ))
                    | (go_at_call 76; (refine (HW.out _ P.out).mono ?_; rintro e w1 ⟨rfl, hb⟩; replace P := Go.Lib.hid (row_next hb P.out); replace R := Go.Lib.hid (row_next hb R.out); replace hB := Go.Lib.hid (below_next hB.out hb); clear hb ))
                    | (go_at_call 77; (refine (HC.out _ P.out).mono ?_; rintro e w1 ⟨rfl, hb⟩; replace P := Go.Lib.hid (row_next hb P.out); replace R := Go.Lib.hid (row_next hb R.out); replace hB := Go.Lib.hid (below_next hB.out hb); clear hb ))
                    | (refine list_at 9 rfl ?_; intro W hW; rw [hW] at hB P R; clear hW; have P' := Go.Lib.hid (cls_row' P.out); have R' := Go.Lib.hid (cls_row' R.out); (repeat (first | go_big_quiet_skip | (refine wpQuiet_loadmid 105 _ rfl (by first | exact want_n rfl | exact want_g _ _ _ rfl rfl rfl) (wr.heap.size) _ rfl 2 2 (spAt j k) _ rw_spot size_spot R'.out (by omega) ?_; rw [sp_row]; simp only [Act.put, List.setIfInBounds_toArray, List.set_cons_succ, List.set_cons_zero]) | go_big_quiet_step (first | (go_at_call 75; exact cls_call _ (fun w hw => HI.out w (row_next hw P.out))) | (go_at_call 76; exact cls_call _ (fun w hw => HW.out w (row_next hw P.out))) | (go_at_call 77; exact cls_call _ (fun w hw => HC.out w (row_next hw P.out)))))); refine wpQuiet_nil ?_; intro Wn hb; replace P := Go.Lib.hid (row_next hb P.out); replace R := Go.Lib.hid (row_next hb R.out); replace hB := Go.Lib.hid (below_next hB.out hb); clear hb P' R')
                    | (refine list_at 34 rfl ?_; intro W hW; rw [hW] at hB P R; clear hW; have P' := Go.Lib.hid (cls_row' P.out); have R' := Go.Lib.hid (cls_row' R.out); (repeat (first | go_big_quiet_skip | (refine wpQuiet_loadmid 105 _ rfl (by first | exact want_n rfl | exact want_g _ _ _ rfl rfl rfl) (wr.heap.size) _ rfl 2 2 (spAt j k) _ rw_spot size_spot R'.out (by omega) ?_; rw [sp_row]; simp only [Act.put, List.setIfInBounds_toArray, List.set_cons_succ, List.set_cons_zero]) | go_big_quiet_step (first | (go_at_call 75; exact cls_call _ (fun w hw => HI.out w (row_next hw P.out))) | (go_at_call 76; exact cls_call _ (fun w hw => HW.out w (row_next hw P.out))) | (go_at_call 77; exact cls_call _ (fun w hw => HC.out w (row_next hw P.out)))))); refine wpQuiet_nil ?_; intro Wn hb; replace P := Go.Lib.hid (row_next hb P.out); replace R := Go.Lib.hid (row_next hb R.out); replace hB := Go.Lib.hid (below_next hB.out hb); clear hb P' R')
                    | (refine list_at 43 rfl ?_; intro W hW; rw [hW] at hB P R; clear hW; have P' := Go.Lib.hid (cls_row' P.out); have R' := Go.Lib.hid (cls_row' R.out); (repeat (first | go_big_quiet_skip | (refine wpQuiet_loadmid 105 _ rfl (by first | exact want_n rfl | exact want_g _ _ _ rfl rfl rfl) (wr.heap.size) _ rfl 2 2 (spAt j k) _ rw_spot size_spot R'.out (by omega) ?_; rw [sp_row]; simp only [Act.put, List.setIfInBounds_toArray, List.set_cons_succ, List.set_cons_zero]) | go_big_quiet_step (first | (go_at_call 75; exact cls_call _ (fun w hw => HI.out w (row_next hw P.out))) | (go_at_call 76; exact cls_call _ (fun w hw => HW.out w (row_next hw P.out))) | (go_at_call 77; exact cls_call _ (fun w hw => HC.out w (row_next hw P.out)))))); refine wpQuiet_nil ?_; intro Wn hb; replace P := Go.Lib.hid (row_next hb P.out); replace R := Go.Lib.hid (row_next hb R.out); replace hB := Go.Lib.hid (below_next hB.out hb); clear hb P' R'))
                  go_ret
                  exact ⟨by rw [HR.out]; rfl, hB.out⟩
                · have hw' : waxB s j k = false := by simpa using hw
                  by_cases hc : cellB s j k = true
                  · have HG := Go.Lib.hid (hgo (by simp [placeB, hw', hc]))
                    have HI := Go.Lib.hid HI0; have HW := Go.Lib.hid HW0; have HC := Go.Lib.hid HC0
                    rw [hh'] at HI; rw [hw'] at HW; rw [hc] at HC
                    clear HI0 HW0 HC0 hno hgo hh hh' hw hw' hc
                    go_wp2_with (first
                      | (refine wpList_storeall rfl 105 (.tmp 5) (.tmp 32) rfl _ rfl 2 (spAt 0 0) (spAt j k) rfl 105 size_spot (heap_at _ _ _ rfl) (fun i _ => spAt_one _ _ i) ?_; rw [setRow_at _ _ _ _ _ rfl]; have R := Go.Lib.hid (heap_at wr (.cells (vrow 2 (spAt j k)) 105) _ rfl); replace P := Go.Lib.hid (heap_past wr (.cells (vrow 2 (spAt j k)) 105) _ _ (row_lt P.out) P.out); replace hB := Go.Lib.hid (hB.out.alloc hB.out.size (.cells (vrow 2 (spAt j k)) 105)))
                      | (go_at_call 75; (refine (HI.out _ P.out).mono ?_; rintro e w1 ⟨rfl, hb⟩; replace P := Go.Lib.hid (row_next hb P.out); replace R := Go.Lib.hid (row_next hb R.out); replace hB := Go.Lib.hid (below_next hB.out hb); clear hb ))
                      | (go_at_call 76; (refine (HW.out _ P.out).mono ?_; rintro e w1 ⟨rfl, hb⟩; replace P := Go.Lib.hid (row_next hb P.out); replace R := Go.Lib.hid (row_next hb R.out); replace hB := Go.Lib.hid (below_next hB.out hb); clear hb ))
                      | (go_at_call 77; (refine (HC.out _ P.out).mono ?_; rintro e w1 ⟨rfl, hb⟩; replace P := Go.Lib.hid (row_next hb P.out); replace R := Go.Lib.hid (row_next hb R.out); replace hB := Go.Lib.hid (below_next hB.out hb); clear hb ))
                      | (refine list_at 9 rfl ?_; intro W hW; rw [hW] at hB P R; clear hW; have P' := Go.Lib.hid (cls_row' P.out); have R' := Go.Lib.hid (cls_row' R.out); (repeat (first | go_big_quiet_skip | (refine wpQuiet_loadmid 105 _ rfl (by first | exact want_n rfl | exact want_g _ _ _ rfl rfl rfl) (wr.heap.size) _ rfl 2 2 (spAt j k) _ rw_spot size_spot R'.out (by omega) ?_; rw [sp_row]; simp only [Act.put, List.setIfInBounds_toArray, List.set_cons_succ, List.set_cons_zero]) | go_big_quiet_step (first | (go_at_call 75; exact cls_call _ (fun w hw => HI.out w (row_next hw P.out))) | (go_at_call 76; exact cls_call _ (fun w hw => HW.out w (row_next hw P.out))) | (go_at_call 77; exact cls_call _ (fun w hw => HC.out w (row_next hw P.out)))))); refine wpQuiet_nil ?_; intro Wn hb; replace P := Go.Lib.hid (row_next hb P.out); replace R := Go.Lib.hid (row_next hb R.out); replace hB := Go.Lib.hid (below_next hB.out hb); clear hb P' R')
                      | (refine list_at 34 rfl ?_; intro W hW; rw [hW] at hB P R; clear hW; have P' := Go.Lib.hid (cls_row' P.out); have R' := Go.Lib.hid (cls_row' R.out); (repeat (first | go_big_quiet_skip | (refine wpQuiet_loadmid 105 _ rfl (by first | exact want_n rfl | exact want_g _ _ _ rfl rfl rfl) (wr.heap.size) _ rfl 2 2 (spAt j k) _ rw_spot size_spot R'.out (by omega) ?_; rw [sp_row]; simp only [Act.put, List.setIfInBounds_toArray, List.set_cons_succ, List.set_cons_zero]) | go_big_quiet_step (first | (go_at_call 75; exact cls_call _ (fun w hw => HI.out w (row_next hw P.out))) | (go_at_call 76; exact cls_call _ (fun w hw => HW.out w (row_next hw P.out))) | (go_at_call 77; exact cls_call _ (fun w hw => HC.out w (row_next hw P.out)))))); refine wpQuiet_nil ?_; intro Wn hb; replace P := Go.Lib.hid (row_next hb P.out); replace R := Go.Lib.hid (row_next hb R.out); replace hB := Go.Lib.hid (below_next hB.out hb); clear hb P' R')
                      | (refine list_at 43 rfl ?_; intro W hW; rw [hW] at hB P R; clear hW; have P' := Go.Lib.hid (cls_row' P.out); have R' := Go.Lib.hid (cls_row' R.out); (repeat (first | go_big_quiet_skip | (refine wpQuiet_loadmid 105 _ rfl (by first | exact want_n rfl | exact want_g _ _ _ rfl rfl rfl) (wr.heap.size) _ rfl 2 2 (spAt j k) _ rw_spot size_spot R'.out (by omega) ?_; rw [sp_row]; simp only [Act.put, List.setIfInBounds_toArray, List.set_cons_succ, List.set_cons_zero]) | go_big_quiet_step (first | (go_at_call 75; exact cls_call _ (fun w hw => HI.out w (row_next hw P.out))) | (go_at_call 76; exact cls_call _ (fun w hw => HW.out w (row_next hw P.out))) | (go_at_call 77; exact cls_call _ (fun w hw => HC.out w (row_next hw P.out)))))); refine wpQuiet_nil ?_; intro Wn hb; replace P := Go.Lib.hid (row_next hb P.out); replace R := Go.Lib.hid (row_next hb R.out); replace hB := Go.Lib.hid (below_next hB.out hb); clear hb P' R'))
                    go_roundw
                    case rel => exact ⟨j + 1, by omega, by go_num, HG.out, hB.out, P.out⟩
                    case measure => simp [intOf]; omega
                  · have hc' : cellB s j k = false := by simpa using hc
                    have HR := Go.Lib.hid (hno (by simp [placeB, hc']))
                    have HI := Go.Lib.hid HI0; have HW := Go.Lib.hid HW0; have HC := Go.Lib.hid HC0
                    rw [hh'] at HI; rw [hw'] at HW; rw [hc'] at HC
                    clear HI0 HW0 HC0 hno hgo hh hh' hw hw' hc hc'
                    go_wp2_with (first
                      | (refine wpList_storeall rfl 105 (.tmp 5) (.tmp 32) rfl _ rfl 2 (spAt 0 0) (spAt j k) rfl 105 size_spot (heap_at _ _ _ rfl) (fun i _ => spAt_one _ _ i) ?_; rw [setRow_at _ _ _ _ _ rfl]; have R := Go.Lib.hid (heap_at wr (.cells (vrow 2 (spAt j k)) 105) _ rfl); replace P := Go.Lib.hid (heap_past wr (.cells (vrow 2 (spAt j k)) 105) _ _ (row_lt P.out) P.out); replace hB := Go.Lib.hid (hB.out.alloc hB.out.size (.cells (vrow 2 (spAt j k)) 105)))
                      | (go_at_call 75; (refine (HI.out _ P.out).mono ?_; rintro e w1 ⟨rfl, hb⟩; replace P := Go.Lib.hid (row_next hb P.out); replace R := Go.Lib.hid (row_next hb R.out); replace hB := Go.Lib.hid (below_next hB.out hb); clear hb ))
                      | (go_at_call 76; (refine (HW.out _ P.out).mono ?_; rintro e w1 ⟨rfl, hb⟩; replace P := Go.Lib.hid (row_next hb P.out); replace R := Go.Lib.hid (row_next hb R.out); replace hB := Go.Lib.hid (below_next hB.out hb); clear hb ))
                      | (go_at_call 77; (refine (HC.out _ P.out).mono ?_; rintro e w1 ⟨rfl, hb⟩; replace P := Go.Lib.hid (row_next hb P.out); replace R := Go.Lib.hid (row_next hb R.out); replace hB := Go.Lib.hid (below_next hB.out hb); clear hb ))
                      | (refine list_at 9 rfl ?_; intro W hW; rw [hW] at hB P R; clear hW; have P' := Go.Lib.hid (cls_row' P.out); have R' := Go.Lib.hid (cls_row' R.out); (repeat (first | go_big_quiet_skip | (refine wpQuiet_loadmid 105 _ rfl (by first | exact want_n rfl | exact want_g _ _ _ rfl rfl rfl) (wr.heap.size) _ rfl 2 2 (spAt j k) _ rw_spot size_spot R'.out (by omega) ?_; rw [sp_row]; simp only [Act.put, List.setIfInBounds_toArray, List.set_cons_succ, List.set_cons_zero]) | go_big_quiet_step (first | (go_at_call 75; exact cls_call _ (fun w hw => HI.out w (row_next hw P.out))) | (go_at_call 76; exact cls_call _ (fun w hw => HW.out w (row_next hw P.out))) | (go_at_call 77; exact cls_call _ (fun w hw => HC.out w (row_next hw P.out)))))); refine wpQuiet_nil ?_; intro Wn hb; replace P := Go.Lib.hid (row_next hb P.out); replace R := Go.Lib.hid (row_next hb R.out); replace hB := Go.Lib.hid (below_next hB.out hb); clear hb P' R')
                      | (refine list_at 34 rfl ?_; intro W hW; rw [hW] at hB P R; clear hW; have P' := Go.Lib.hid (cls_row' P.out); have R' := Go.Lib.hid (cls_row' R.out); (repeat (first | go_big_quiet_skip | (refine wpQuiet_loadmid 105 _ rfl (by first | exact want_n rfl | exact want_g _ _ _ rfl rfl rfl) (wr.heap.size) _ rfl 2 2 (spAt j k) _ rw_spot size_spot R'.out (by omega) ?_; rw [sp_row]; simp only [Act.put, List.setIfInBounds_toArray, List.set_cons_succ, List.set_cons_zero]) | go_big_quiet_step (first | (go_at_call 75; exact cls_call _ (fun w hw => HI.out w (row_next hw P.out))) | (go_at_call 76; exact cls_call _ (fun w hw => HW.out w (row_next hw P.out))) | (go_at_call 77; exact cls_call _ (fun w hw => HC.out w (row_next hw P.out)))))); refine wpQuiet_nil ?_; intro Wn hb; replace P := Go.Lib.hid (row_next hb P.out); replace R := Go.Lib.hid (row_next hb R.out); replace hB := Go.Lib.hid (below_next hB.out hb); clear hb P' R')
                      | (refine list_at 43 rfl ?_; intro W hW; rw [hW] at hB P R; clear hW; have P' := Go.Lib.hid (cls_row' P.out); have R' := Go.Lib.hid (cls_row' R.out); (repeat (first | go_big_quiet_skip | (refine wpQuiet_loadmid 105 _ rfl (by first | exact want_n rfl | exact want_g _ _ _ rfl rfl rfl) (wr.heap.size) _ rfl 2 2 (spAt j k) _ rw_spot size_spot R'.out (by omega) ?_; rw [sp_row]; simp only [Act.put, List.setIfInBounds_toArray, List.set_cons_succ, List.set_cons_zero]) | go_big_quiet_step (first | (go_at_call 75; exact cls_call _ (fun w hw => HI.out w (row_next hw P.out))) | (go_at_call 76; exact cls_call _ (fun w hw => HW.out w (row_next hw P.out))) | (go_at_call 77; exact cls_call _ (fun w hw => HC.out w (row_next hw P.out)))))); refine wpQuiet_nil ?_; intro Wn hb; replace P := Go.Lib.hid (row_next hb P.out); replace R := Go.Lib.hid (row_next hb R.out); replace hB := Go.Lib.hid (below_next hB.out hb); clear hb P' R'))
                    go_ret
                    exact ⟨by rw [HR.out]; rfl, hB.out⟩
            · obtain rfl : j = 8 := by omega
              clear zz
              go_wp2
              go_roundw
              case rel => exact ⟨k + 1, by omega, by go_num, fun i hi => hd.out i (by omega), hB.out, P.out⟩
              case measure => simp [intOf]; omega
        · obtain rfl : k = 8 := by omega
          have HR := Go.Lib.hid (okB_yes s h1 h2 h3 h4 fun i hi => hd.out i (by omega))
          clear hd
          go_wp2
          go_ret
          exact ⟨by rw [HR.out]; rfl, hB.out⟩
theorem ok_any (s : Sh) (b : Nat) (w : World) (hs : w.heap[b]? = some (.cells s.row 39)) (hf : s.fit) : Calls Tryd.prog 39 #[.pointer (some ⟨b, 0, none⟩)] w fun e w' => e = .returned (.bool (okB s)) ∧ Below w.heap.size w w' := ok_from w s b w hs hf (Below.refl _ _)
end Go.Proofs.YtfhfiaphdgfmnaaDoor
namespace Go.Proofs.YtfhfiaphdgfmnaaDoor
open Go.RowKit
set_option linter.unusedVariables false
def validB (s : Sh) (x y : Nat) : Bool :=
  if hasB s x y then (if waxB s x y then bareB s x y else (dOk s x y 0 && (dOk s x y 1 && dOk s x y 2)) && wOk s x y) else bareB s x y && !waxB s x y
theorem idx_d3 (s : Sh) (x y k : Nat) (hk : k < 3) (w : World) : (Instr.index 27 (.agg #[.int .i16 (s.dye (24 * y + 3 * x)), .int .i16 (s.dye (24 * y + 3 * x + 1)), .int .i16 (s.dye (24 * y + 3 * x + 2))]) (.int .i64 k)).run Tryd.prog w = .ok (.int .i16 (s.dye (24 * y + 3 * x + k))) w := by
  have i0 : ∀ (a b c : Value) (w : World), (Instr.index 27 (.agg #[a, b, c]) (.int .i64 0)).run Tryd.prog w = .ok a w := fun _ _ _ _ => by kernel_rfl
  have i1 : ∀ (a b c : Value) (w : World), (Instr.index 27 (.agg #[a, b, c]) (.int .i64 1)).run Tryd.prog w = .ok b w := fun _ _ _ _ => by kernel_rfl
  have i2 : ∀ (a b c : Value) (w : World), (Instr.index 27 (.agg #[a, b, c]) (.int .i64 2)).run Tryd.prog w = .ok c w := fun _ _ _ _ => by kernel_rfl
  have : k = 0 ∨ k = 1 ∨ k = 2 := by omega
  rcases this with rfl | rfl | rfl
  · exact i0 _ _ _ w
  · exact i1 _ _ _ w
  · exact i2 _ _ _ w
set_option maxHeartbeats 1000000 in
theorem validAt_any (s : Sh) (x y : Nat) (w : World) (hx : x < 8) (hy : y < 8) : Calls Tryd.prog 104 #[.agg s.row, .agg #[.int .i8 x, .int .i8 y]] w fun e w' => e = .returned (.bool (validB s x y)) ∧ Below w.heap.size w w' := by
  rw [sp_vrow]
  have hB : Hid (Below w.heap.size w ((w.alloc (.cells (vrow 266 s.at) 39)).alloc (.cells (vrow 2 (spAt x y)) 105))) := (((Below.refl w.heap.size w).alloc (by simp <;> omega) _).alloc (by simp <;> omega) _)
  have P : Hid (((w.alloc (.cells (vrow 266 s.at) 39)).alloc (.cells (vrow 2 (spAt x y)) 105)).heap[(w.heap.size)]? = some (.cells (vrow 266 s.at) 39)) := heap_past _ _ _ _ (by first | omega | (simp <;> omega)) (heap_at _ _ _ (by simp))
  have R : Hid (((w.alloc (.cells (vrow 266 s.at) 39)).alloc (.cells (vrow 2 (spAt x y)) 105)).heap[(w.heap.size + 1)]? = some (.cells (vrow 2 (spAt x y)) 105)) := heap_at _ _ _ (by simp)
  have HH0 := fun w => has_any s x y w
  have HW0 := fun w => waxed_any s x y hx hy w
  have HA := Go.Lib.hid fun w => bare_any s x y hx hy w
  by_cases hh : hasB s x y = true
  · rw [hh] at HH0
    have HH := Go.Lib.hid HH0
    by_cases hw : waxB s x y = true
    · have HR := Go.Lib.hid (show validB s x y = bareB s x y by simp [validB, hh, hw])
      rw [hw] at HW0
      have HW := Go.Lib.hid HW0
      clear HH0 HW0 hh hw
      go_enter Tryd.func104, Tryd.ntmps104
      go_wp2_with (first
        | (go_at_call 117; (refine (HH.out _).mono ?_; rintro e w1 ⟨rfl, hb⟩; replace P := Go.Lib.hid (row_next hb P.out); replace R := Go.Lib.hid (row_next hb R.out); replace hB := Go.Lib.hid (below_next hB.out hb); clear hb ))
        | (go_at_call 118; (refine (HA.out _).mono ?_; rintro e w1 ⟨rfl, hb⟩; replace P := Go.Lib.hid (row_next hb P.out); replace R := Go.Lib.hid (row_next hb R.out); replace hB := Go.Lib.hid (below_next hB.out hb); clear hb ))
        | (go_at_call 110; (refine (HW.out _).mono ?_; rintro e w1 ⟨rfl, hb⟩; replace P := Go.Lib.hid (row_next hb P.out); replace R := Go.Lib.hid (row_next hb R.out); replace hB := Go.Lib.hid (below_next hB.out hb); clear hb ))
        | (refine list_at 8 rfl ?_; intro W hW; rw [hW] at hB P R; clear hW; have P' := Go.Lib.hid (cls_row' P.out); have R' := Go.Lib.hid (cls_row' R.out); (repeat (first | go_big_quiet_skip | (refine wpQuiet_load1 24 _ rfl (by first | exact want_n rfl | exact want_g _ _ _ rfl rfl rfl) (w.heap.size) _ rfl 266 s.at _ rw_i16 P'.out (by omega) ?_; (first | rw [Sh.at_0] | rw [Sh.at_1] | rw [Sh.at_wax1 _ _ (by omega)] | rw [Sh.at_wet1 _ _ (8 * y + x) (by omega) (by omega)] | rw [Sh.at_dye1 _ _ (24 * y + 3 * x) (by omega) (by omega)]); simp only [Act.put, List.setIfInBounds_toArray, List.set_cons_succ, List.set_cons_zero]) | (refine wpQuiet_loadmid 39 _ rfl (by first | exact want_n rfl | exact want_g _ _ _ rfl rfl rfl) (w.heap.size) _ rfl 266 266 s.at _ rw_sheet size_sheet P'.out (by omega) ?_; rw [sh_row]; simp only [Act.put, List.setIfInBounds_toArray, List.set_cons_succ, List.set_cons_zero]) | (refine wpQuiet_loadmid 27 _ rfl (by first | exact want_n rfl | exact want_g _ _ _ rfl rfl rfl) (w.heap.size) _ rfl 266 3 s.at _ rw_d3 size_d3 P'.out (by omega) ?_; rw [Sh.at_d3 _ _ (24 * y + 3 * x) (by omega) (by omega)]; simp only [Act.put, List.setIfInBounds_toArray, List.set_cons_succ, List.set_cons_zero]) | (refine wpQuiet_load1 23 _ rfl (by first | exact want_n rfl | exact want_g _ _ _ rfl rfl rfl) (w.heap.size + 1) _ rfl 2 (spAt x y) _ rw_i8 R'.out (by omega) ?_; (first | rw [spAt_0] | rw [spAt_1]); simp only [Act.put, List.setIfInBounds_toArray, List.set_cons_succ, List.set_cons_zero]) | (refine wpQuiet_loadmid 105 _ rfl (by first | exact want_n rfl | exact want_g _ _ _ rfl rfl rfl) (w.heap.size + 1) _ rfl 2 2 (spAt x y) _ rw_spot size_spot R'.out (by omega) ?_; rw [sp_row]; simp only [Act.put, List.setIfInBounds_toArray, List.set_cons_succ, List.set_cons_zero]) | go_big_quiet_step (first | (go_at_call 117; exact cls_call _ (fun w hw => HH.out w)) | (go_at_call 118; exact cls_call _ (fun w hw => HA.out w)) | (go_at_call 110; exact cls_call _ (fun w hw => HW.out w))))); refine wpQuiet_nil ?_; intro Wn hb; replace P := Go.Lib.hid (row_next hb P.out); replace R := Go.Lib.hid (row_next hb R.out); replace hB := Go.Lib.hid (below_next hB.out hb); clear hb P' R')
        | (refine list_at 12 rfl ?_; intro W hW; rw [hW] at hB P R; clear hW; have P' := Go.Lib.hid (cls_row' P.out); have R' := Go.Lib.hid (cls_row' R.out); (repeat (first | go_big_quiet_skip | (refine wpQuiet_load1 24 _ rfl (by first | exact want_n rfl | exact want_g _ _ _ rfl rfl rfl) (w.heap.size) _ rfl 266 s.at _ rw_i16 P'.out (by omega) ?_; (first | rw [Sh.at_0] | rw [Sh.at_1] | rw [Sh.at_wax1 _ _ (by omega)] | rw [Sh.at_wet1 _ _ (8 * y + x) (by omega) (by omega)] | rw [Sh.at_dye1 _ _ (24 * y + 3 * x) (by omega) (by omega)]); simp only [Act.put, List.setIfInBounds_toArray, List.set_cons_succ, List.set_cons_zero]) | (refine wpQuiet_loadmid 39 _ rfl (by first | exact want_n rfl | exact want_g _ _ _ rfl rfl rfl) (w.heap.size) _ rfl 266 266 s.at _ rw_sheet size_sheet P'.out (by omega) ?_; rw [sh_row]; simp only [Act.put, List.setIfInBounds_toArray, List.set_cons_succ, List.set_cons_zero]) | (refine wpQuiet_loadmid 27 _ rfl (by first | exact want_n rfl | exact want_g _ _ _ rfl rfl rfl) (w.heap.size) _ rfl 266 3 s.at _ rw_d3 size_d3 P'.out (by omega) ?_; rw [Sh.at_d3 _ _ (24 * y + 3 * x) (by omega) (by omega)]; simp only [Act.put, List.setIfInBounds_toArray, List.set_cons_succ, List.set_cons_zero]) | (refine wpQuiet_load1 23 _ rfl (by first | exact want_n rfl | exact want_g _ _ _ rfl rfl rfl) (w.heap.size + 1) _ rfl 2 (spAt x y) _ rw_i8 R'.out (by omega) ?_; (first | rw [spAt_0] | rw [spAt_1]); simp only [Act.put, List.setIfInBounds_toArray, List.set_cons_succ, List.set_cons_zero]) | (refine wpQuiet_loadmid 105 _ rfl (by first | exact want_n rfl | exact want_g _ _ _ rfl rfl rfl) (w.heap.size + 1) _ rfl 2 2 (spAt x y) _ rw_spot size_spot R'.out (by omega) ?_; rw [sp_row]; simp only [Act.put, List.setIfInBounds_toArray, List.set_cons_succ, List.set_cons_zero]) | go_big_quiet_step (first | (go_at_call 117; exact cls_call _ (fun w hw => HH.out w)) | (go_at_call 118; exact cls_call _ (fun w hw => HA.out w)) | (go_at_call 110; exact cls_call _ (fun w hw => HW.out w))))); refine wpQuiet_nil ?_; intro Wn hb; replace P := Go.Lib.hid (row_next hb P.out); replace R := Go.Lib.hid (row_next hb R.out); replace hB := Go.Lib.hid (below_next hB.out hb); clear hb P' R')
        | (refine list_at 21 rfl ?_; intro W hW; rw [hW] at hB P R; clear hW; have P' := Go.Lib.hid (cls_row' P.out); have R' := Go.Lib.hid (cls_row' R.out); (repeat (first | go_big_quiet_skip | (refine wpQuiet_load1 24 _ rfl (by first | exact want_n rfl | exact want_g _ _ _ rfl rfl rfl) (w.heap.size) _ rfl 266 s.at _ rw_i16 P'.out (by omega) ?_; (first | rw [Sh.at_0] | rw [Sh.at_1] | rw [Sh.at_wax1 _ _ (by omega)] | rw [Sh.at_wet1 _ _ (8 * y + x) (by omega) (by omega)] | rw [Sh.at_dye1 _ _ (24 * y + 3 * x) (by omega) (by omega)]); simp only [Act.put, List.setIfInBounds_toArray, List.set_cons_succ, List.set_cons_zero]) | (refine wpQuiet_loadmid 39 _ rfl (by first | exact want_n rfl | exact want_g _ _ _ rfl rfl rfl) (w.heap.size) _ rfl 266 266 s.at _ rw_sheet size_sheet P'.out (by omega) ?_; rw [sh_row]; simp only [Act.put, List.setIfInBounds_toArray, List.set_cons_succ, List.set_cons_zero]) | (refine wpQuiet_loadmid 27 _ rfl (by first | exact want_n rfl | exact want_g _ _ _ rfl rfl rfl) (w.heap.size) _ rfl 266 3 s.at _ rw_d3 size_d3 P'.out (by omega) ?_; rw [Sh.at_d3 _ _ (24 * y + 3 * x) (by omega) (by omega)]; simp only [Act.put, List.setIfInBounds_toArray, List.set_cons_succ, List.set_cons_zero]) | (refine wpQuiet_load1 23 _ rfl (by first | exact want_n rfl | exact want_g _ _ _ rfl rfl rfl) (w.heap.size + 1) _ rfl 2 (spAt x y) _ rw_i8 R'.out (by omega) ?_; (first | rw [spAt_0] | rw [spAt_1]); simp only [Act.put, List.setIfInBounds_toArray, List.set_cons_succ, List.set_cons_zero]) | (refine wpQuiet_loadmid 105 _ rfl (by first | exact want_n rfl | exact want_g _ _ _ rfl rfl rfl) (w.heap.size + 1) _ rfl 2 2 (spAt x y) _ rw_spot size_spot R'.out (by omega) ?_; rw [sp_row]; simp only [Act.put, List.setIfInBounds_toArray, List.set_cons_succ, List.set_cons_zero]) | go_big_quiet_step (first | (go_at_call 117; exact cls_call _ (fun w hw => HH.out w)) | (go_at_call 118; exact cls_call _ (fun w hw => HA.out w)) | (go_at_call 110; exact cls_call _ (fun w hw => HW.out w))))); refine wpQuiet_nil ?_; intro Wn hb; replace P := Go.Lib.hid (row_next hb P.out); replace R := Go.Lib.hid (row_next hb R.out); replace hB := Go.Lib.hid (below_next hB.out hb); clear hb P' R')
        | (refine list_at 24 rfl ?_; intro W hW; rw [hW] at hB P R; clear hW; have P' := Go.Lib.hid (cls_row' P.out); have R' := Go.Lib.hid (cls_row' R.out); (repeat (first | go_big_quiet_skip | (refine wpQuiet_load1 24 _ rfl (by first | exact want_n rfl | exact want_g _ _ _ rfl rfl rfl) (w.heap.size) _ rfl 266 s.at _ rw_i16 P'.out (by omega) ?_; (first | rw [Sh.at_0] | rw [Sh.at_1] | rw [Sh.at_wax1 _ _ (by omega)] | rw [Sh.at_wet1 _ _ (8 * y + x) (by omega) (by omega)] | rw [Sh.at_dye1 _ _ (24 * y + 3 * x) (by omega) (by omega)]); simp only [Act.put, List.setIfInBounds_toArray, List.set_cons_succ, List.set_cons_zero]) | (refine wpQuiet_loadmid 39 _ rfl (by first | exact want_n rfl | exact want_g _ _ _ rfl rfl rfl) (w.heap.size) _ rfl 266 266 s.at _ rw_sheet size_sheet P'.out (by omega) ?_; rw [sh_row]; simp only [Act.put, List.setIfInBounds_toArray, List.set_cons_succ, List.set_cons_zero]) | (refine wpQuiet_loadmid 27 _ rfl (by first | exact want_n rfl | exact want_g _ _ _ rfl rfl rfl) (w.heap.size) _ rfl 266 3 s.at _ rw_d3 size_d3 P'.out (by omega) ?_; rw [Sh.at_d3 _ _ (24 * y + 3 * x) (by omega) (by omega)]; simp only [Act.put, List.setIfInBounds_toArray, List.set_cons_succ, List.set_cons_zero]) | (refine wpQuiet_load1 23 _ rfl (by first | exact want_n rfl | exact want_g _ _ _ rfl rfl rfl) (w.heap.size + 1) _ rfl 2 (spAt x y) _ rw_i8 R'.out (by omega) ?_; (first | rw [spAt_0] | rw [spAt_1]); simp only [Act.put, List.setIfInBounds_toArray, List.set_cons_succ, List.set_cons_zero]) | (refine wpQuiet_loadmid 105 _ rfl (by first | exact want_n rfl | exact want_g _ _ _ rfl rfl rfl) (w.heap.size + 1) _ rfl 2 2 (spAt x y) _ rw_spot size_spot R'.out (by omega) ?_; rw [sp_row]; simp only [Act.put, List.setIfInBounds_toArray, List.set_cons_succ, List.set_cons_zero]) | go_big_quiet_step (first | (go_at_call 117; exact cls_call _ (fun w hw => HH.out w)) | (go_at_call 118; exact cls_call _ (fun w hw => HA.out w)) | (go_at_call 110; exact cls_call _ (fun w hw => HW.out w))))); refine wpQuiet_nil ?_; intro Wn hb; replace P := Go.Lib.hid (row_next hb P.out); replace R := Go.Lib.hid (row_next hb R.out); replace hB := Go.Lib.hid (below_next hB.out hb); clear hb P' R'))
      go_ret
      exact ⟨by rw [HR.out]; rfl, hB.out⟩
    · have hw' : waxB s x y = false := by simpa using hw
      have HR := Go.Lib.hid (show validB s x y = ((dOk s x y 0 && (dOk s x y 1 && dOk s x y 2)) && wOk s x y) by simp [validB, hh, hw'])
      rw [hw'] at HW0
      have HW := Go.Lib.hid HW0
      clear HH0 HW0 hh hw hw'
      go_enter Tryd.func104, Tryd.ntmps104
      go_wp2_with (first
        | (go_at_call 117; (refine (HH.out _).mono ?_; rintro e w1 ⟨rfl, hb⟩; replace P := Go.Lib.hid (row_next hb P.out); replace R := Go.Lib.hid (row_next hb R.out); replace hB := Go.Lib.hid (below_next hB.out hb); clear hb ))
        | (go_at_call 118; (refine (HA.out _).mono ?_; rintro e w1 ⟨rfl, hb⟩; replace P := Go.Lib.hid (row_next hb P.out); replace R := Go.Lib.hid (row_next hb R.out); replace hB := Go.Lib.hid (below_next hB.out hb); clear hb ))
        | (go_at_call 110; (refine (HW.out _).mono ?_; rintro e w1 ⟨rfl, hb⟩; replace P := Go.Lib.hid (row_next hb P.out); replace R := Go.Lib.hid (row_next hb R.out); replace hB := Go.Lib.hid (below_next hB.out hb); clear hb ))
        | (refine list_at 8 rfl ?_; intro W hW; rw [hW] at hB P R; clear hW; have P' := Go.Lib.hid (cls_row' P.out); have R' := Go.Lib.hid (cls_row' R.out); (repeat (first | go_big_quiet_skip | (refine wpQuiet_load1 24 _ rfl (by first | exact want_n rfl | exact want_g _ _ _ rfl rfl rfl) (w.heap.size) _ rfl 266 s.at _ rw_i16 P'.out (by omega) ?_; (first | rw [Sh.at_0] | rw [Sh.at_1] | rw [Sh.at_wax1 _ _ (by omega)] | rw [Sh.at_wet1 _ _ (8 * y + x) (by omega) (by omega)] | rw [Sh.at_dye1 _ _ (24 * y + 3 * x) (by omega) (by omega)]); simp only [Act.put, List.setIfInBounds_toArray, List.set_cons_succ, List.set_cons_zero]) | (refine wpQuiet_loadmid 39 _ rfl (by first | exact want_n rfl | exact want_g _ _ _ rfl rfl rfl) (w.heap.size) _ rfl 266 266 s.at _ rw_sheet size_sheet P'.out (by omega) ?_; rw [sh_row]; simp only [Act.put, List.setIfInBounds_toArray, List.set_cons_succ, List.set_cons_zero]) | (refine wpQuiet_loadmid 27 _ rfl (by first | exact want_n rfl | exact want_g _ _ _ rfl rfl rfl) (w.heap.size) _ rfl 266 3 s.at _ rw_d3 size_d3 P'.out (by omega) ?_; rw [Sh.at_d3 _ _ (24 * y + 3 * x) (by omega) (by omega)]; simp only [Act.put, List.setIfInBounds_toArray, List.set_cons_succ, List.set_cons_zero]) | (refine wpQuiet_load1 23 _ rfl (by first | exact want_n rfl | exact want_g _ _ _ rfl rfl rfl) (w.heap.size + 1) _ rfl 2 (spAt x y) _ rw_i8 R'.out (by omega) ?_; (first | rw [spAt_0] | rw [spAt_1]); simp only [Act.put, List.setIfInBounds_toArray, List.set_cons_succ, List.set_cons_zero]) | (refine wpQuiet_loadmid 105 _ rfl (by first | exact want_n rfl | exact want_g _ _ _ rfl rfl rfl) (w.heap.size + 1) _ rfl 2 2 (spAt x y) _ rw_spot size_spot R'.out (by omega) ?_; rw [sp_row]; simp only [Act.put, List.setIfInBounds_toArray, List.set_cons_succ, List.set_cons_zero]) | go_big_quiet_step (first | (go_at_call 117; exact cls_call _ (fun w hw => HH.out w)) | (go_at_call 118; exact cls_call _ (fun w hw => HA.out w)) | (go_at_call 110; exact cls_call _ (fun w hw => HW.out w))))); refine wpQuiet_nil ?_; intro Wn hb; replace P := Go.Lib.hid (row_next hb P.out); replace R := Go.Lib.hid (row_next hb R.out); replace hB := Go.Lib.hid (below_next hB.out hb); clear hb P' R')
        | (refine list_at 12 rfl ?_; intro W hW; rw [hW] at hB P R; clear hW; have P' := Go.Lib.hid (cls_row' P.out); have R' := Go.Lib.hid (cls_row' R.out); (repeat (first | go_big_quiet_skip | (refine wpQuiet_load1 24 _ rfl (by first | exact want_n rfl | exact want_g _ _ _ rfl rfl rfl) (w.heap.size) _ rfl 266 s.at _ rw_i16 P'.out (by omega) ?_; (first | rw [Sh.at_0] | rw [Sh.at_1] | rw [Sh.at_wax1 _ _ (by omega)] | rw [Sh.at_wet1 _ _ (8 * y + x) (by omega) (by omega)] | rw [Sh.at_dye1 _ _ (24 * y + 3 * x) (by omega) (by omega)]); simp only [Act.put, List.setIfInBounds_toArray, List.set_cons_succ, List.set_cons_zero]) | (refine wpQuiet_loadmid 39 _ rfl (by first | exact want_n rfl | exact want_g _ _ _ rfl rfl rfl) (w.heap.size) _ rfl 266 266 s.at _ rw_sheet size_sheet P'.out (by omega) ?_; rw [sh_row]; simp only [Act.put, List.setIfInBounds_toArray, List.set_cons_succ, List.set_cons_zero]) | (refine wpQuiet_loadmid 27 _ rfl (by first | exact want_n rfl | exact want_g _ _ _ rfl rfl rfl) (w.heap.size) _ rfl 266 3 s.at _ rw_d3 size_d3 P'.out (by omega) ?_; rw [Sh.at_d3 _ _ (24 * y + 3 * x) (by omega) (by omega)]; simp only [Act.put, List.setIfInBounds_toArray, List.set_cons_succ, List.set_cons_zero]) | (refine wpQuiet_load1 23 _ rfl (by first | exact want_n rfl | exact want_g _ _ _ rfl rfl rfl) (w.heap.size + 1) _ rfl 2 (spAt x y) _ rw_i8 R'.out (by omega) ?_; (first | rw [spAt_0] | rw [spAt_1]); simp only [Act.put, List.setIfInBounds_toArray, List.set_cons_succ, List.set_cons_zero]) | (refine wpQuiet_loadmid 105 _ rfl (by first | exact want_n rfl | exact want_g _ _ _ rfl rfl rfl) (w.heap.size + 1) _ rfl 2 2 (spAt x y) _ rw_spot size_spot R'.out (by omega) ?_; rw [sp_row]; simp only [Act.put, List.setIfInBounds_toArray, List.set_cons_succ, List.set_cons_zero]) | go_big_quiet_step (first | (go_at_call 117; exact cls_call _ (fun w hw => HH.out w)) | (go_at_call 118; exact cls_call _ (fun w hw => HA.out w)) | (go_at_call 110; exact cls_call _ (fun w hw => HW.out w))))); refine wpQuiet_nil ?_; intro Wn hb; replace P := Go.Lib.hid (row_next hb P.out); replace R := Go.Lib.hid (row_next hb R.out); replace hB := Go.Lib.hid (below_next hB.out hb); clear hb P' R')
        | (refine list_at 21 rfl ?_; intro W hW; rw [hW] at hB P R; clear hW; have P' := Go.Lib.hid (cls_row' P.out); have R' := Go.Lib.hid (cls_row' R.out); (repeat (first | go_big_quiet_skip | (refine wpQuiet_load1 24 _ rfl (by first | exact want_n rfl | exact want_g _ _ _ rfl rfl rfl) (w.heap.size) _ rfl 266 s.at _ rw_i16 P'.out (by omega) ?_; (first | rw [Sh.at_0] | rw [Sh.at_1] | rw [Sh.at_wax1 _ _ (by omega)] | rw [Sh.at_wet1 _ _ (8 * y + x) (by omega) (by omega)] | rw [Sh.at_dye1 _ _ (24 * y + 3 * x) (by omega) (by omega)]); simp only [Act.put, List.setIfInBounds_toArray, List.set_cons_succ, List.set_cons_zero]) | (refine wpQuiet_loadmid 39 _ rfl (by first | exact want_n rfl | exact want_g _ _ _ rfl rfl rfl) (w.heap.size) _ rfl 266 266 s.at _ rw_sheet size_sheet P'.out (by omega) ?_; rw [sh_row]; simp only [Act.put, List.setIfInBounds_toArray, List.set_cons_succ, List.set_cons_zero]) | (refine wpQuiet_loadmid 27 _ rfl (by first | exact want_n rfl | exact want_g _ _ _ rfl rfl rfl) (w.heap.size) _ rfl 266 3 s.at _ rw_d3 size_d3 P'.out (by omega) ?_; rw [Sh.at_d3 _ _ (24 * y + 3 * x) (by omega) (by omega)]; simp only [Act.put, List.setIfInBounds_toArray, List.set_cons_succ, List.set_cons_zero]) | (refine wpQuiet_load1 23 _ rfl (by first | exact want_n rfl | exact want_g _ _ _ rfl rfl rfl) (w.heap.size + 1) _ rfl 2 (spAt x y) _ rw_i8 R'.out (by omega) ?_; (first | rw [spAt_0] | rw [spAt_1]); simp only [Act.put, List.setIfInBounds_toArray, List.set_cons_succ, List.set_cons_zero]) | (refine wpQuiet_loadmid 105 _ rfl (by first | exact want_n rfl | exact want_g _ _ _ rfl rfl rfl) (w.heap.size + 1) _ rfl 2 2 (spAt x y) _ rw_spot size_spot R'.out (by omega) ?_; rw [sp_row]; simp only [Act.put, List.setIfInBounds_toArray, List.set_cons_succ, List.set_cons_zero]) | go_big_quiet_step (first | (go_at_call 117; exact cls_call _ (fun w hw => HH.out w)) | (go_at_call 118; exact cls_call _ (fun w hw => HA.out w)) | (go_at_call 110; exact cls_call _ (fun w hw => HW.out w))))); refine wpQuiet_nil ?_; intro Wn hb; replace P := Go.Lib.hid (row_next hb P.out); replace R := Go.Lib.hid (row_next hb R.out); replace hB := Go.Lib.hid (below_next hB.out hb); clear hb P' R')
        | (refine list_at 24 rfl ?_; intro W hW; rw [hW] at hB P R; clear hW; have P' := Go.Lib.hid (cls_row' P.out); have R' := Go.Lib.hid (cls_row' R.out); (repeat (first | go_big_quiet_skip | (refine wpQuiet_load1 24 _ rfl (by first | exact want_n rfl | exact want_g _ _ _ rfl rfl rfl) (w.heap.size) _ rfl 266 s.at _ rw_i16 P'.out (by omega) ?_; (first | rw [Sh.at_0] | rw [Sh.at_1] | rw [Sh.at_wax1 _ _ (by omega)] | rw [Sh.at_wet1 _ _ (8 * y + x) (by omega) (by omega)] | rw [Sh.at_dye1 _ _ (24 * y + 3 * x) (by omega) (by omega)]); simp only [Act.put, List.setIfInBounds_toArray, List.set_cons_succ, List.set_cons_zero]) | (refine wpQuiet_loadmid 39 _ rfl (by first | exact want_n rfl | exact want_g _ _ _ rfl rfl rfl) (w.heap.size) _ rfl 266 266 s.at _ rw_sheet size_sheet P'.out (by omega) ?_; rw [sh_row]; simp only [Act.put, List.setIfInBounds_toArray, List.set_cons_succ, List.set_cons_zero]) | (refine wpQuiet_loadmid 27 _ rfl (by first | exact want_n rfl | exact want_g _ _ _ rfl rfl rfl) (w.heap.size) _ rfl 266 3 s.at _ rw_d3 size_d3 P'.out (by omega) ?_; rw [Sh.at_d3 _ _ (24 * y + 3 * x) (by omega) (by omega)]; simp only [Act.put, List.setIfInBounds_toArray, List.set_cons_succ, List.set_cons_zero]) | (refine wpQuiet_load1 23 _ rfl (by first | exact want_n rfl | exact want_g _ _ _ rfl rfl rfl) (w.heap.size + 1) _ rfl 2 (spAt x y) _ rw_i8 R'.out (by omega) ?_; (first | rw [spAt_0] | rw [spAt_1]); simp only [Act.put, List.setIfInBounds_toArray, List.set_cons_succ, List.set_cons_zero]) | (refine wpQuiet_loadmid 105 _ rfl (by first | exact want_n rfl | exact want_g _ _ _ rfl rfl rfl) (w.heap.size + 1) _ rfl 2 2 (spAt x y) _ rw_spot size_spot R'.out (by omega) ?_; rw [sp_row]; simp only [Act.put, List.setIfInBounds_toArray, List.set_cons_succ, List.set_cons_zero]) | go_big_quiet_step (first | (go_at_call 117; exact cls_call _ (fun w hw => HH.out w)) | (go_at_call 118; exact cls_call _ (fun w hw => HA.out w)) | (go_at_call 110; exact cls_call _ (fun w hw => HW.out w))))); refine wpQuiet_nil ?_; intro Wn hb; replace P := Go.Lib.hid (row_next hb P.out); replace R := Go.Lib.hid (row_next hb R.out); replace hB := Go.Lib.hid (below_next hB.out hb); clear hb P' R'))
      (refine region_at (by kernel_rfl) (by kernel_rfl) ?_; intro W hW; rw [hW] at hB P R; clear hW; have P' := Go.Lib.hid (cls_row' P.out); have R' := Go.Lib.hid (cls_row' R.out); (repeat (first | go_big_quiet_skip | (refine wpQuiet_load1 24 _ rfl (by first | exact want_n rfl | exact want_g _ _ _ rfl rfl rfl) (w.heap.size) _ rfl 266 s.at _ rw_i16 P'.out (by omega) ?_; (first | rw [Sh.at_0] | rw [Sh.at_1] | rw [Sh.at_wax1 _ _ (by omega)] | rw [Sh.at_wet1 _ _ (8 * y + x) (by omega) (by omega)] | rw [Sh.at_dye1 _ _ (24 * y + 3 * x) (by omega) (by omega)]); simp only [Act.put, List.setIfInBounds_toArray, List.set_cons_succ, List.set_cons_zero]) | (refine wpQuiet_loadmid 39 _ rfl (by first | exact want_n rfl | exact want_g _ _ _ rfl rfl rfl) (w.heap.size) _ rfl 266 266 s.at _ rw_sheet size_sheet P'.out (by omega) ?_; rw [sh_row]; simp only [Act.put, List.setIfInBounds_toArray, List.set_cons_succ, List.set_cons_zero]) | (refine wpQuiet_loadmid 27 _ rfl (by first | exact want_n rfl | exact want_g _ _ _ rfl rfl rfl) (w.heap.size) _ rfl 266 3 s.at _ rw_d3 size_d3 P'.out (by omega) ?_; rw [Sh.at_d3 _ _ (24 * y + 3 * x) (by omega) (by omega)]; simp only [Act.put, List.setIfInBounds_toArray, List.set_cons_succ, List.set_cons_zero]) | (refine wpQuiet_load1 23 _ rfl (by first | exact want_n rfl | exact want_g _ _ _ rfl rfl rfl) (w.heap.size + 1) _ rfl 2 (spAt x y) _ rw_i8 R'.out (by omega) ?_; (first | rw [spAt_0] | rw [spAt_1]); simp only [Act.put, List.setIfInBounds_toArray, List.set_cons_succ, List.set_cons_zero]) | (refine wpQuiet_loadmid 105 _ rfl (by first | exact want_n rfl | exact want_g _ _ _ rfl rfl rfl) (w.heap.size + 1) _ rfl 2 2 (spAt x y) _ rw_spot size_spot R'.out (by omega) ?_; rw [sp_row]; simp only [Act.put, List.setIfInBounds_toArray, List.set_cons_succ, List.set_cons_zero]) | go_big_quiet_step (fail))); refine wpQuiet_nil ?_; intro Wn hb; replace P := Go.Lib.hid (row_next hb P.out); replace R := Go.Lib.hid (row_next hb R.out); replace hB := Go.Lib.hid (below_next hB.out hb); clear hb P' R')
      go_wp2
      go_loopw [35] (fun i wr => ∃ k : Nat, k ≤ 3 ∧ i = .int .i64 k ∧ (∀ j, j < k → dOk s x y j = true) ∧ Below w.heap.size w wr ∧ wr.heap[w.heap.size]? = some (.cells (vrow 266 s.at) 39) ∧ wr.heap[w.heap.size + 1]? = some (.cells (vrow 2 (spAt x y)) 105)) (fun i _ => 3 - (intOf i).toNat)
      case atStart => exact ⟨0, by omega, rfl, fun _ h => by omega, hB.out, P.out, R.out⟩
      case round =>
        clear hB P R
        obtain ⟨k, hk, rfl, hd, hB, P, R⟩ := hrel
        replace hB := Go.Lib.hid hB; replace P := Go.Lib.hid P; replace R := Go.Lib.hid R; replace hd := Go.Lib.hid hd
        by_cases hlt : k < 3
        · have hix := idx_d3 s x y k hlt
          have hno : dOk s x y k = false → validB s x y = false := fun h1 => by
            rw [HR.out]
            have : k = 0 ∨ k = 1 ∨ k = 2 := by omega
            rcases this with rfl | rfl | rfl <;> simp [h1]
          by_cases h1 : 0 ≤ s.dye (24 * y + 3 * x + k)
          · by_cases h2 : s.dye (24 * y + 3 * x + k) ≤ 1000
            · have HG := Go.Lib.hid (show ∀ j, j < k + 1 → dOk s x y j = true from fun j hj => if e : j = k then (by subst e; simp [dOk]; omega) else hd.out j (by omega))
              clear hno hd
              go_wp2
              go_roundw
              case rel => exact ⟨k + 1, by omega, by go_num, HG.out, hB.out, P.out, R.out⟩
              case measure => simp [intOf]; omega
            · have HN := Go.Lib.hid (hno (by simp [dOk]; omega))
              clear hno hd
              go_wp2
              go_ret
              exact ⟨by rw [HN.out]; rfl, hB.out⟩
          · have HN := Go.Lib.hid (hno (by simp [dOk]; omega))
            clear hno hd
            go_wp2
            go_ret
            exact ⟨by rw [HN.out]; rfl, hB.out⟩
        · obtain rfl : k = 3 := by omega
          have HV := Go.Lib.hid (show validB s x y = (decide (0 ≤ s.wet (8 * y + x)) && decide (s.wet (8 * y + x) ≤ 200)) by rw [HR.out, hd.out 0 (by omega), hd.out 1 (by omega), hd.out 2 (by omega)]; simp [wOk])
          clear hd HR
          by_cases h1 : 0 ≤ s.wet (8 * y + x)
          · go_wp2
            (refine region_at (by kernel_rfl) (by kernel_rfl) ?_; intro W hW; rw [hW] at hB P R; clear hW; have P' := Go.Lib.hid (cls_row' P.out); have R' := Go.Lib.hid (cls_row' R.out); (repeat (first | go_big_quiet_skip | (refine wpQuiet_load1 24 _ rfl (by first | exact want_n rfl | exact want_g _ _ _ rfl rfl rfl) (w.heap.size) _ rfl 266 s.at _ rw_i16 P'.out (by omega) ?_; (first | rw [Sh.at_0] | rw [Sh.at_1] | rw [Sh.at_wax1 _ _ (by omega)] | rw [Sh.at_wet1 _ _ (8 * y + x) (by omega) (by omega)] | rw [Sh.at_dye1 _ _ (24 * y + 3 * x) (by omega) (by omega)]); simp only [Act.put, List.setIfInBounds_toArray, List.set_cons_succ, List.set_cons_zero]) | (refine wpQuiet_loadmid 39 _ rfl (by first | exact want_n rfl | exact want_g _ _ _ rfl rfl rfl) (w.heap.size) _ rfl 266 266 s.at _ rw_sheet size_sheet P'.out (by omega) ?_; rw [sh_row]; simp only [Act.put, List.setIfInBounds_toArray, List.set_cons_succ, List.set_cons_zero]) | (refine wpQuiet_loadmid 27 _ rfl (by first | exact want_n rfl | exact want_g _ _ _ rfl rfl rfl) (w.heap.size) _ rfl 266 3 s.at _ rw_d3 size_d3 P'.out (by omega) ?_; rw [Sh.at_d3 _ _ (24 * y + 3 * x) (by omega) (by omega)]; simp only [Act.put, List.setIfInBounds_toArray, List.set_cons_succ, List.set_cons_zero]) | (refine wpQuiet_load1 23 _ rfl (by first | exact want_n rfl | exact want_g _ _ _ rfl rfl rfl) (w.heap.size + 1) _ rfl 2 (spAt x y) _ rw_i8 R'.out (by omega) ?_; (first | rw [spAt_0] | rw [spAt_1]); simp only [Act.put, List.setIfInBounds_toArray, List.set_cons_succ, List.set_cons_zero]) | (refine wpQuiet_loadmid 105 _ rfl (by first | exact want_n rfl | exact want_g _ _ _ rfl rfl rfl) (w.heap.size + 1) _ rfl 2 2 (spAt x y) _ rw_spot size_spot R'.out (by omega) ?_; rw [sp_row]; simp only [Act.put, List.setIfInBounds_toArray, List.set_cons_succ, List.set_cons_zero]) | go_big_quiet_step (fail))); refine wpQuiet_nil ?_; intro Wn hb; replace P := Go.Lib.hid (row_next hb P.out); replace R := Go.Lib.hid (row_next hb R.out); replace hB := Go.Lib.hid (below_next hB.out hb); clear hb P' R')
            go_wp2
            go_ret
            exact ⟨by rw [HV.out]; simp [h1], hB.out⟩
          · have h1' : decide (0 ≤ s.wet (8 * y + x)) = false := by simpa using h1
            go_wp2
            (refine region_at (by kernel_rfl) (by kernel_rfl) ?_; intro W hW; rw [hW] at hB P R; clear hW; have P' := Go.Lib.hid (cls_row' P.out); have R' := Go.Lib.hid (cls_row' R.out); (repeat (first | go_big_quiet_skip | (refine wpQuiet_load1 24 _ rfl (by first | exact want_n rfl | exact want_g _ _ _ rfl rfl rfl) (w.heap.size) _ rfl 266 s.at _ rw_i16 P'.out (by omega) ?_; (first | rw [Sh.at_0] | rw [Sh.at_1] | rw [Sh.at_wax1 _ _ (by omega)] | rw [Sh.at_wet1 _ _ (8 * y + x) (by omega) (by omega)] | rw [Sh.at_dye1 _ _ (24 * y + 3 * x) (by omega) (by omega)]); simp only [Act.put, List.setIfInBounds_toArray, List.set_cons_succ, List.set_cons_zero]) | (refine wpQuiet_loadmid 39 _ rfl (by first | exact want_n rfl | exact want_g _ _ _ rfl rfl rfl) (w.heap.size) _ rfl 266 266 s.at _ rw_sheet size_sheet P'.out (by omega) ?_; rw [sh_row]; simp only [Act.put, List.setIfInBounds_toArray, List.set_cons_succ, List.set_cons_zero]) | (refine wpQuiet_loadmid 27 _ rfl (by first | exact want_n rfl | exact want_g _ _ _ rfl rfl rfl) (w.heap.size) _ rfl 266 3 s.at _ rw_d3 size_d3 P'.out (by omega) ?_; rw [Sh.at_d3 _ _ (24 * y + 3 * x) (by omega) (by omega)]; simp only [Act.put, List.setIfInBounds_toArray, List.set_cons_succ, List.set_cons_zero]) | (refine wpQuiet_load1 23 _ rfl (by first | exact want_n rfl | exact want_g _ _ _ rfl rfl rfl) (w.heap.size + 1) _ rfl 2 (spAt x y) _ rw_i8 R'.out (by omega) ?_; (first | rw [spAt_0] | rw [spAt_1]); simp only [Act.put, List.setIfInBounds_toArray, List.set_cons_succ, List.set_cons_zero]) | (refine wpQuiet_loadmid 105 _ rfl (by first | exact want_n rfl | exact want_g _ _ _ rfl rfl rfl) (w.heap.size + 1) _ rfl 2 2 (spAt x y) _ rw_spot size_spot R'.out (by omega) ?_; rw [sp_row]; simp only [Act.put, List.setIfInBounds_toArray, List.set_cons_succ, List.set_cons_zero]) | go_big_quiet_step (fail))); refine wpQuiet_nil ?_; intro Wn hb; replace P := Go.Lib.hid (row_next hb P.out); replace R := Go.Lib.hid (row_next hb R.out); replace hB := Go.Lib.hid (below_next hB.out hb); clear hb P' R')
            go_wp2
            go_ret
            exact ⟨by rw [HV.out, h1']; rfl, hB.out⟩
  · have hh' : hasB s x y = false := by simpa using hh
    rw [hh'] at HH0
    have HH := Go.Lib.hid HH0
    have HW := Go.Lib.hid HW0
    have HR := Go.Lib.hid (show validB s x y = (bareB s x y && !waxB s x y) by simp [validB, hh'])
    clear HH0 HW0 hh hh'
    cases hb : bareB s x y
    all_goals
      rw [hb] at HA HR
      clear hb
      go_enter Tryd.func104, Tryd.ntmps104
      go_wp2_with (first
        | (go_at_call 117; (refine (HH.out _).mono ?_; rintro e w1 ⟨rfl, hb⟩; replace P := Go.Lib.hid (row_next hb P.out); replace R := Go.Lib.hid (row_next hb R.out); replace hB := Go.Lib.hid (below_next hB.out hb); clear hb ))
        | (go_at_call 118; (refine (HA.out _).mono ?_; rintro e w1 ⟨rfl, hb⟩; replace P := Go.Lib.hid (row_next hb P.out); replace R := Go.Lib.hid (row_next hb R.out); replace hB := Go.Lib.hid (below_next hB.out hb); clear hb ))
        | (go_at_call 110; (refine (HW.out _).mono ?_; rintro e w1 ⟨rfl, hb⟩; replace P := Go.Lib.hid (row_next hb P.out); replace R := Go.Lib.hid (row_next hb R.out); replace hB := Go.Lib.hid (below_next hB.out hb); clear hb ))
        | (refine list_at 8 rfl ?_; intro W hW; rw [hW] at hB P R; clear hW; have P' := Go.Lib.hid (cls_row' P.out); have R' := Go.Lib.hid (cls_row' R.out); (repeat (first | go_big_quiet_skip | (refine wpQuiet_load1 24 _ rfl (by first | exact want_n rfl | exact want_g _ _ _ rfl rfl rfl) (w.heap.size) _ rfl 266 s.at _ rw_i16 P'.out (by omega) ?_; (first | rw [Sh.at_0] | rw [Sh.at_1] | rw [Sh.at_wax1 _ _ (by omega)] | rw [Sh.at_wet1 _ _ (8 * y + x) (by omega) (by omega)] | rw [Sh.at_dye1 _ _ (24 * y + 3 * x) (by omega) (by omega)]); simp only [Act.put, List.setIfInBounds_toArray, List.set_cons_succ, List.set_cons_zero]) | (refine wpQuiet_loadmid 39 _ rfl (by first | exact want_n rfl | exact want_g _ _ _ rfl rfl rfl) (w.heap.size) _ rfl 266 266 s.at _ rw_sheet size_sheet P'.out (by omega) ?_; rw [sh_row]; simp only [Act.put, List.setIfInBounds_toArray, List.set_cons_succ, List.set_cons_zero]) | (refine wpQuiet_loadmid 27 _ rfl (by first | exact want_n rfl | exact want_g _ _ _ rfl rfl rfl) (w.heap.size) _ rfl 266 3 s.at _ rw_d3 size_d3 P'.out (by omega) ?_; rw [Sh.at_d3 _ _ (24 * y + 3 * x) (by omega) (by omega)]; simp only [Act.put, List.setIfInBounds_toArray, List.set_cons_succ, List.set_cons_zero]) | (refine wpQuiet_load1 23 _ rfl (by first | exact want_n rfl | exact want_g _ _ _ rfl rfl rfl) (w.heap.size + 1) _ rfl 2 (spAt x y) _ rw_i8 R'.out (by omega) ?_; (first | rw [spAt_0] | rw [spAt_1]); simp only [Act.put, List.setIfInBounds_toArray, List.set_cons_succ, List.set_cons_zero]) | (refine wpQuiet_loadmid 105 _ rfl (by first | exact want_n rfl | exact want_g _ _ _ rfl rfl rfl) (w.heap.size + 1) _ rfl 2 2 (spAt x y) _ rw_spot size_spot R'.out (by omega) ?_; rw [sp_row]; simp only [Act.put, List.setIfInBounds_toArray, List.set_cons_succ, List.set_cons_zero]) | go_big_quiet_step (first | (go_at_call 117; exact cls_call _ (fun w hw => HH.out w)) | (go_at_call 118; exact cls_call _ (fun w hw => HA.out w)) | (go_at_call 110; exact cls_call _ (fun w hw => HW.out w))))); refine wpQuiet_nil ?_; intro Wn hb; replace P := Go.Lib.hid (row_next hb P.out); replace R := Go.Lib.hid (row_next hb R.out); replace hB := Go.Lib.hid (below_next hB.out hb); clear hb P' R')
        | (refine list_at 12 rfl ?_; intro W hW; rw [hW] at hB P R; clear hW; have P' := Go.Lib.hid (cls_row' P.out); have R' := Go.Lib.hid (cls_row' R.out); (repeat (first | go_big_quiet_skip | (refine wpQuiet_load1 24 _ rfl (by first | exact want_n rfl | exact want_g _ _ _ rfl rfl rfl) (w.heap.size) _ rfl 266 s.at _ rw_i16 P'.out (by omega) ?_; (first | rw [Sh.at_0] | rw [Sh.at_1] | rw [Sh.at_wax1 _ _ (by omega)] | rw [Sh.at_wet1 _ _ (8 * y + x) (by omega) (by omega)] | rw [Sh.at_dye1 _ _ (24 * y + 3 * x) (by omega) (by omega)]); simp only [Act.put, List.setIfInBounds_toArray, List.set_cons_succ, List.set_cons_zero]) | (refine wpQuiet_loadmid 39 _ rfl (by first | exact want_n rfl | exact want_g _ _ _ rfl rfl rfl) (w.heap.size) _ rfl 266 266 s.at _ rw_sheet size_sheet P'.out (by omega) ?_; rw [sh_row]; simp only [Act.put, List.setIfInBounds_toArray, List.set_cons_succ, List.set_cons_zero]) | (refine wpQuiet_loadmid 27 _ rfl (by first | exact want_n rfl | exact want_g _ _ _ rfl rfl rfl) (w.heap.size) _ rfl 266 3 s.at _ rw_d3 size_d3 P'.out (by omega) ?_; rw [Sh.at_d3 _ _ (24 * y + 3 * x) (by omega) (by omega)]; simp only [Act.put, List.setIfInBounds_toArray, List.set_cons_succ, List.set_cons_zero]) | (refine wpQuiet_load1 23 _ rfl (by first | exact want_n rfl | exact want_g _ _ _ rfl rfl rfl) (w.heap.size + 1) _ rfl 2 (spAt x y) _ rw_i8 R'.out (by omega) ?_; (first | rw [spAt_0] | rw [spAt_1]); simp only [Act.put, List.setIfInBounds_toArray, List.set_cons_succ, List.set_cons_zero]) | (refine wpQuiet_loadmid 105 _ rfl (by first | exact want_n rfl | exact want_g _ _ _ rfl rfl rfl) (w.heap.size + 1) _ rfl 2 2 (spAt x y) _ rw_spot size_spot R'.out (by omega) ?_; rw [sp_row]; simp only [Act.put, List.setIfInBounds_toArray, List.set_cons_succ, List.set_cons_zero]) | go_big_quiet_step (first | (go_at_call 117; exact cls_call _ (fun w hw => HH.out w)) | (go_at_call 118; exact cls_call _ (fun w hw => HA.out w)) | (go_at_call 110; exact cls_call _ (fun w hw => HW.out w))))); refine wpQuiet_nil ?_; intro Wn hb; replace P := Go.Lib.hid (row_next hb P.out); replace R := Go.Lib.hid (row_next hb R.out); replace hB := Go.Lib.hid (below_next hB.out hb); clear hb P' R')
        | (refine list_at 21 rfl ?_; intro W hW; rw [hW] at hB P R; clear hW; have P' := Go.Lib.hid (cls_row' P.out); have R' := Go.Lib.hid (cls_row' R.out); (repeat (first | go_big_quiet_skip | (refine wpQuiet_load1 24 _ rfl (by first | exact want_n rfl | exact want_g _ _ _ rfl rfl rfl) (w.heap.size) _ rfl 266 s.at _ rw_i16 P'.out (by omega) ?_; (first | rw [Sh.at_0] | rw [Sh.at_1] | rw [Sh.at_wax1 _ _ (by omega)] | rw [Sh.at_wet1 _ _ (8 * y + x) (by omega) (by omega)] | rw [Sh.at_dye1 _ _ (24 * y + 3 * x) (by omega) (by omega)]); simp only [Act.put, List.setIfInBounds_toArray, List.set_cons_succ, List.set_cons_zero]) | (refine wpQuiet_loadmid 39 _ rfl (by first | exact want_n rfl | exact want_g _ _ _ rfl rfl rfl) (w.heap.size) _ rfl 266 266 s.at _ rw_sheet size_sheet P'.out (by omega) ?_; rw [sh_row]; simp only [Act.put, List.setIfInBounds_toArray, List.set_cons_succ, List.set_cons_zero]) | (refine wpQuiet_loadmid 27 _ rfl (by first | exact want_n rfl | exact want_g _ _ _ rfl rfl rfl) (w.heap.size) _ rfl 266 3 s.at _ rw_d3 size_d3 P'.out (by omega) ?_; rw [Sh.at_d3 _ _ (24 * y + 3 * x) (by omega) (by omega)]; simp only [Act.put, List.setIfInBounds_toArray, List.set_cons_succ, List.set_cons_zero]) | (refine wpQuiet_load1 23 _ rfl (by first | exact want_n rfl | exact want_g _ _ _ rfl rfl rfl) (w.heap.size + 1) _ rfl 2 (spAt x y) _ rw_i8 R'.out (by omega) ?_; (first | rw [spAt_0] | rw [spAt_1]); simp only [Act.put, List.setIfInBounds_toArray, List.set_cons_succ, List.set_cons_zero]) | (refine wpQuiet_loadmid 105 _ rfl (by first | exact want_n rfl | exact want_g _ _ _ rfl rfl rfl) (w.heap.size + 1) _ rfl 2 2 (spAt x y) _ rw_spot size_spot R'.out (by omega) ?_; rw [sp_row]; simp only [Act.put, List.setIfInBounds_toArray, List.set_cons_succ, List.set_cons_zero]) | go_big_quiet_step (first | (go_at_call 117; exact cls_call _ (fun w hw => HH.out w)) | (go_at_call 118; exact cls_call _ (fun w hw => HA.out w)) | (go_at_call 110; exact cls_call _ (fun w hw => HW.out w))))); refine wpQuiet_nil ?_; intro Wn hb; replace P := Go.Lib.hid (row_next hb P.out); replace R := Go.Lib.hid (row_next hb R.out); replace hB := Go.Lib.hid (below_next hB.out hb); clear hb P' R')
        | (refine list_at 24 rfl ?_; intro W hW; rw [hW] at hB P R; clear hW; have P' := Go.Lib.hid (cls_row' P.out); have R' := Go.Lib.hid (cls_row' R.out); (repeat (first | go_big_quiet_skip | (refine wpQuiet_load1 24 _ rfl (by first | exact want_n rfl | exact want_g _ _ _ rfl rfl rfl) (w.heap.size) _ rfl 266 s.at _ rw_i16 P'.out (by omega) ?_; (first | rw [Sh.at_0] | rw [Sh.at_1] | rw [Sh.at_wax1 _ _ (by omega)] | rw [Sh.at_wet1 _ _ (8 * y + x) (by omega) (by omega)] | rw [Sh.at_dye1 _ _ (24 * y + 3 * x) (by omega) (by omega)]); simp only [Act.put, List.setIfInBounds_toArray, List.set_cons_succ, List.set_cons_zero]) | (refine wpQuiet_loadmid 39 _ rfl (by first | exact want_n rfl | exact want_g _ _ _ rfl rfl rfl) (w.heap.size) _ rfl 266 266 s.at _ rw_sheet size_sheet P'.out (by omega) ?_; rw [sh_row]; simp only [Act.put, List.setIfInBounds_toArray, List.set_cons_succ, List.set_cons_zero]) | (refine wpQuiet_loadmid 27 _ rfl (by first | exact want_n rfl | exact want_g _ _ _ rfl rfl rfl) (w.heap.size) _ rfl 266 3 s.at _ rw_d3 size_d3 P'.out (by omega) ?_; rw [Sh.at_d3 _ _ (24 * y + 3 * x) (by omega) (by omega)]; simp only [Act.put, List.setIfInBounds_toArray, List.set_cons_succ, List.set_cons_zero]) | (refine wpQuiet_load1 23 _ rfl (by first | exact want_n rfl | exact want_g _ _ _ rfl rfl rfl) (w.heap.size + 1) _ rfl 2 (spAt x y) _ rw_i8 R'.out (by omega) ?_; (first | rw [spAt_0] | rw [spAt_1]); simp only [Act.put, List.setIfInBounds_toArray, List.set_cons_succ, List.set_cons_zero]) | (refine wpQuiet_loadmid 105 _ rfl (by first | exact want_n rfl | exact want_g _ _ _ rfl rfl rfl) (w.heap.size + 1) _ rfl 2 2 (spAt x y) _ rw_spot size_spot R'.out (by omega) ?_; rw [sp_row]; simp only [Act.put, List.setIfInBounds_toArray, List.set_cons_succ, List.set_cons_zero]) | go_big_quiet_step (first | (go_at_call 117; exact cls_call _ (fun w hw => HH.out w)) | (go_at_call 118; exact cls_call _ (fun w hw => HA.out w)) | (go_at_call 110; exact cls_call _ (fun w hw => HW.out w))))); refine wpQuiet_nil ?_; intro Wn hb; replace P := Go.Lib.hid (row_next hb P.out); replace R := Go.Lib.hid (row_next hb R.out); replace hB := Go.Lib.hid (below_next hB.out hb); clear hb P' R'))
      go_ret
      exact ⟨by rw [HR.out]; simp, hB.out⟩
end Go.Proofs.YtfhfiaphdgfmnaaDoor
namespace Go.Proofs.YtfhfiaphdgfmnaaDoor
open Go.RowKit
set_option linter.unusedVariables false
/-- The wide fence, in a round or in none. -/
abbrev FW (ro : Option Nat) : Fence := { Fence.wide with round := ro }
section
variable {ro : Option Nat} {n : Nat} {P : Program} {ops : Array Oper} {Q : Exit → Act → World → Prop} {C : World → Prop}
theorem callsFW {m : Nat} {f : FuncId} {args : Array Value} {w : World} {R : Ending → World → Prop} (h : Calls P f args w R) : CallsIn (FW ro) m P f args w R :=
  ((callsIn_wide (n := m)).2 h)
theorem not_defer {o : Oper} {a : Act} {w : World} {v : Value} (h : o.quietAt P a C w v) (c : Call) : o.op ≠ .defer c := by
  intro hc
  unfold Oper.quietAt at h
  simp only [execOp, hc, Sem.run_bind, Sem.run_pure] at h
  generalize (resolve a.eval c o.type).run P w = r at h
  cases r <;> simp [Result.andThen, Oper.quietUpon] at h
theorem wpIn_of_quiet {o : Oper} {a : Act} {K : Act → Prop} {K' : Act → World → Prop} {Q' : Exit → Act → World → Prop} {w : World} (hw : C w) (h : ∀ a w', C w' → K a → K' a w') (hh : o.quiet P a C K) : o.wpIn (FW ro) n P a w K' Q' := by
  obtain ⟨v, h1, h2⟩ := hh
  have h3 := h1 w hw
  have e : o.semAt ro a.eval = execOp a.eval o := Oper.semAt_eq ro _ _ (not_defer h3)
  refine ⟨fun _ _ => trivial, ?_⟩
  show o.uponIn (FW ro) n P a K' Q' ((o.semAt ro a.eval).run P w)
  rw [e]
  unfold Oper.quietAt at h3
  generalize (execOp a.eval o).run P w = r at *
  cases r with
  | ok n w' =>
    cases n <;> simp only [Oper.quietUpon] at h3 <;> simp only [Oper.uponIn]
    case value u =>
      obtain ⟨e1, e2⟩ := h3
      rw [e1, e2]
      exact h _ _ hw h2
    case skip =>
      obtain ⟨e1, e2⟩ := h3
      rw [e1, ← e2]
      exact h _ _ hw h2
    case enter f args =>
      obtain ⟨e1, hc⟩ := h3
      rw [e1]
      refine ⟨fun h => by simp [Fence.wide] at h, ?_⟩
      exact callsFW (hc.mono fun e w'' ⟨he, hw''⟩ => by subst he; exact h _ _ hw'' h2)
  | halt x w' => simp only [Oper.quietUpon] at h3
theorem wpListIn_of_quiet : ∀ (l : List Oper) (a : Act) (w : World), C w → wpQuiet P ops C (fun a' => ∀ w', C w' → Q .normal a' w') l a → wpListIn (FW ro) n P ops Q l a w
  | [], _, w, hw, h => h w hw
  | o :: rest, a, w, hw, h => by
    unfold wpQuiet at h
    refine wpListIn_step fun K hK => ?_
    split
    · rename_i hg
      rw [if_pos hg] at h
      exact wpIn_of_quiet hw (fun a' w' hw' h' => hK a' w' (wpListIn_of_quiet rest a' w' hw' h')) h
    · rename_i hg
      rw [if_neg hg] at h
      exact ⟨fun _ _ => trivial, hK _ _ (wpListIn_of_quiet rest _ w hw h)⟩
theorem wpOpIn_of_qOp {i : Nat} {a : Act} {K : Act → Prop} {K' : Act → World → Prop} {Q' : Exit → Act → World → Prop} {w : World} (hC : C w) (h : ∀ a w', C w' → K a → K' a w') (hh : qOp P ops C i K a) : wpOpIn (FW ro) n P ops Q' i K' a w := by
  unfold qOp at hh
  unfold wpOpIn
  cases ho : ops[i]? with
  | none => simp only [ho] at hh ⊢; exact h _ _ hC hh
  | some o =>
    simp only [ho] at hh ⊢
    split
    · rename_i hg
      rw [if_pos hg] at hh
      exact wpIn_of_quiet hC h hh
    · rename_i hg
      rw [if_neg hg] at hh
      exact ⟨fun _ _ => trivial, h _ _ hC hh⟩
theorem wpAnyIn_of_quiet' {md : Region.Mode} {Q : Act → Prop} {Q' : Exit → Act → World → Prop} (hQ : ∀ a w, C w → Q a → Q' .normal a w) : ∀ (fuel : Nat) (listed : Array Bool) (a : Act) (w : World), C w →
    wpAnyQ P md ops C Q fuel listed a → wpAnyIn (FW ro) n P md ops Q' fuel listed a w
  | 0, _, _, _, hw, h => ⟨h.1, hQ _ _ hw h.2⟩
  | fuel + 1, _, _, _, hw, h => ⟨fun h0 => hQ _ _ hw (h.1 h0), fun i hi => wpOpIn_of_qOp hw (fun a' w' hw' => wpAnyIn_of_quiet' hQ fuel _ a' w' hw') (h.2 i hi)⟩
end
theorem cls_below {P : Program} {ops : Array Oper} {Q : Exit → Act → World → Prop} {l : List Oper} {a : Act} {W : World}
    (h : wpQuiet P ops (Cls W.heap.size W) (fun a' => ∀ w', Below W.heap.size W w' → Q .normal a' w') l a) : wpQuiet P ops (Cls W.heap.size W) (fun a' => ∀ w', Cls W.heap.size W w' → Q .normal a' w') l a := by
  have e : (fun a' => ∀ w', Below W.heap.size W w' → Q .normal a' w') = (fun a' => ∀ w', Cls W.heap.size W w' → Q .normal a' w') := by
    funext a'
    exact propext ⟨fun h w' ⟨u, hu⟩ => by rw [hu]; exact h _ u.2, fun h w' hw => h w' ⟨⟨w', hw⟩, rfl⟩⟩
  rw [e] at h
  exact h
/-- list_at, in a round. -/
theorem list_atI (d : Nat) {r n : Nat} {P : Program} {ops : Array Oper} {Q : Exit → Act → World → Prop} {l : List Oper} {o : Oper} {a : Act} {w : World} (_ : o.dst = some d)
    (h : ∀ W, w = W → wpQuiet P ops (Cls W.heap.size W) (fun a' => ∀ w', Below W.heap.size W w' → Q .normal a' w') (o :: l) a) : wpListIn (Fence.wide.inRound r) n P ops Q (o :: l) a w :=
  wpListIn_of_quiet (ro := some r) (C := Cls w.heap.size w) _ a w ⟨⟨w, Below.refl _ _⟩, rfl⟩ (cls_below (h w rfl))
/-- region_at, in a round. -/
theorem region_atI {id r n : Nat} {P : Program} {Q : Exit → Act → World → Prop} {a : Act} {w : World} {l : List Oper} (hm : P.follows .mixedOrders = true) (hB : Region.lexB .any l.toArray = true)
    (h : ∀ W, w = W → wpQuiet P l.toArray (Cls W.heap.size W) (fun a' => ∀ w', Below W.heap.size W w' → Q .normal a' w') l a) : (Code.region id l.toArray true).wpIn (Fence.wide.inRound r) n P Q a w := by
  have h := cls_below (h w rfl)
  simp only [Region.lexB, Bool.and_eq_true] at hB
  refine wpIn_region_any hm (wpAnyIn_of_quiet' (ro := some r) (C := Cls w.heap.size w) (Q := fun a' => ∀ w', Cls w.heap.size w w' → Q .normal a' w') (fun _ w' hw' h => h w' hw') _ _ _ _ (cls_drew _ _) ?_)
  have := wpAnyQ_lex (P := P) (C := Cls w.heap.size w) (md := .any) hB.1 l 0 (Array.replicate l.toArray.size false) a (by simp) (by simpa using hB.2) h
  simpa using this
end Go.Proofs.YtfhfiaphdgfmnaaDoor
namespace Go.Proofs.YtfhfiaphdgfmnaaDoor
open Go.RowKit
set_option linter.unusedVariables false
attribute [local go_sem] Oper.semAt_some
/-- A place of the grid. -/
abbrev Sp8 := { p : Nat × Nat // p.1 < 8 ∧ p.2 < 8 }
def mk8 (x y : Nat) : Sp8 := if h : x < 8 ∧ y < 8 then ⟨(x, y), h⟩ else ⟨(0, 0), by decide⟩
theorem mk8_x {x y : Nat} (hx : x < 8) (hy : y < 8) : (mk8 x y).1 = (x, y) := by unfold mk8; rw [dif_pos ⟨hx, hy⟩]
def rowOf (a y : Nat) : List Sp8 := (List.range a).map fun x => mk8 x y
/-- the cells of a columns and c rows, in their order -/
def cellsL (a c : Nat) : List Sp8 := (List.range c).flatMap (rowOf a)
theorem rowOf_succ (a y : Nat) : rowOf (a + 1) y = rowOf a y ++ [mk8 a y] := by simp [rowOf, List.range_succ]
theorem cellsL_succ (a c : Nat) : cellsL a (c + 1) = cellsL a c ++ rowOf a c := by simp [cellsL, List.range_succ]
theorem rowOf_length (a y : Nat) : (rowOf a y).length = a := by simp [rowOf]
theorem cellsL_length (a c : Nat) : (cellsL a c).length = a * c := by
  induction c with
  | zero => simp [cellsL]
  | succ c ih => rw [cellsL_succ, List.length_append, ih, rowOf_length, Nat.mul_succ]
def encS (p : Sp8) : Array Value := #[.agg #[.int .i8 p.1.1, .int .i8 p.1.2]]
/-- Two blocks lie as they lay. -/
def Kp2 (b1 b2 : Nat) (A B : World) : Prop := B.heap[b1]? = A.heap[b1]? ∧ B.heap[b2]? = A.heap[b2]?
theorem Kp2.t {b1 b2 : Nat} {A B C : World} (h : Kp2 b1 b2 A B) (k : Kp2 b1 b2 B C) : Kp2 b1 b2 A C := ⟨k.1.trans h.1, k.2.trans h.2⟩
theorem Kp2.b {b1 b2 : Nat} {w : World} (h1 : b1 < w.heap.size) (h2 : b2 < w.heap.size) (W : World) (l : Nat) (o o' : Obj) (hl : w.heap.size ≤ l) (_ : W.heap[l]? = some o) (_ : o.isCells = false) (_ : o.isWalk = false) : Kp2 b1 b2 W (W.putObj l o') :=
  ⟨World.putObj_heap_other (by omega), World.putObj_heap_other (by omega)⟩
theorem Kp2.of_below {b1 b2 n : Nat} {A B : World} (h : Below n A B) (h1 : b1 < n) (h2 : b2 < n) : Kp2 b1 b2 A B := ⟨h.block _ h1, h.block _ h2⟩
theorem cells_any (a c : Int) (w : World) : Calls Tryd.prog 95 #[.int .i8 a, .int .i8 c] w fun e w' => e = .returned (.func (.func 111) #[] #[.pointer (some ⟨w.heap.size + 1, 0, none⟩), .pointer (some ⟨w.heap.size, 0, none⟩)]) ∧ w' = (w.alloc (.cells #[.int .i8 a] 23)).alloc (.cells #[.int .i8 c] 23) := by
  go_enter Tryd.func95, Tryd.ntmps95
  go_wp2
  go_ret
  exact ⟨rfl, rfl⟩
set_option maxRecDepth 100000 in
set_option maxHeartbeats 1000000 in
theorem cells1_in (F : Fence) (n : Nat) (hF : F.fn 111) (hro : F.round = none) (hn : 1 ≤ n) (l b1 b2 a c : Nat) (ha : a ≤ 8) (hc : c ≤ 8) (J Jx : List Sp8 → World → Prop)
    (hY : ∀ pre x W, J pre W → pre.length < a * c → YieldAt F (n - 1) Tryd.prog l (encS x) W fun e W' =>
      (e = .returned (.bool true) ∧ J (pre ++ [x]) W' ∧ Kp2 b1 b2 W W') ∨ (e = .returned (.bool false) ∧ Jx (pre ++ [x]) W'))
    (W : World) (h1 : W.heap[b1]? = some (.cells #[.int .i8 c] 23)) (h2 : W.heap[b2]? = some (.cells #[.int .i8 a] 23)) (h0 : J [] W) :
    CallsIn F n Tryd.prog 111 #[.func (.yield l) #[] #[], .pointer (some ⟨b1, 0, none⟩), .pointer (some ⟨b2, 0, none⟩)] W fun e W' => (∃ v, e = .returned v) ∧
      ((∃ ys, ys = cellsL a c ∧ J ys W') ∨ (∃ pre, True ∧ Jx pre W')) := by
  refine callsIn_of_wp Tryd.func111 rfl hF ?_ hro
  simp only [Tryd.ntmps111, List.size_toArray, List.length_cons, List.length_nil, Nat.reduceAdd, Nat.reduceSub, Array.replicate_succ, Array.replicate_zero, List.push_toArray, List.append_toArray, List.nil_append, List.cons_append]
  have c1 := cell_of_row W b1 0 _ _ (0, 0) h1
  have c2 := cell_of_row W b2 0 _ _ (0, 0) h2
  simp at c1 c2
  have H1 := Go.Lib.hid h1; have H2 := Go.Lib.hid h2; clear h1 h2
  gi_wp2
  gi_loopw [7] (fun yv wr => ∃ k : Nat, k ≤ c ∧ yv = .int .i8 k ∧ J (cellsL a k) wr ∧ wr.heap[b1]? = some (.cells #[.int .i8 c] 23) ∧ wr.heap[b2]? = some (.cells #[.int .i8 a] 23)) (fun yv _ => c - (intOf yv).toNat)
  case atStart => exact ⟨0, by omega, rfl, h0, H1.out, H2.out⟩
  case round =>
    clear c1 c2 H1 H2 h0
    obtain ⟨k, hk, rfl, hJ, h1, h2⟩ := hrel
    have c2 := cell_of_row wr b2 0 _ _ (0, 0) h2
    simp at c2
    have H1 := Go.Lib.hid h1; have H2 := Go.Lib.hid h2; clear h1 h2
    by_cases hlt : k < c
    · have hdk : decide ((k : Int) < c) = true := by simp; omega
      gi_wp2
      obtain ⟨wo, hwo⟩ : ∃ wo : World, wo = wr := ⟨_, rfl⟩
      rw [← hwo] at hJ c2 H1 H2 ⊢
      clear hwo wr
      gi_loopw [11] (fun xv wr => ∃ j : Nat, j ≤ a ∧ xv = .int .i8 j ∧ J (cellsL a k ++ rowOf j k) wr ∧ wr.heap[b1]? = some (.cells #[.int .i8 c] 23) ∧ wr.heap[b2]? = some (.cells #[.int .i8 a] 23)) (fun xv _ => a - (intOf xv).toNat)
      case atStart => exact ⟨0, by omega, rfl, by simpa [rowOf] using hJ, H1.out, H2.out⟩
      case round =>
        clear c2 H1 H2 hJ
        obtain ⟨j, hj, rfl, hJ, h1, h2⟩ := hrel
        have H1 := Go.Lib.hid h1; have H2 := Go.Lib.hid h2; clear h1 h2
        by_cases hlj : j < a
        · have hjk : a * (k + 1) ≤ a * c := Nat.mul_le_mul_left a (by omega)
          have hlen : (cellsL a k ++ rowOf j k).length < a * c := by
            rw [List.length_append, cellsL_length, rowOf_length]; rw [Nat.mul_succ] at hjk; omega
          obtain ⟨fn, tmps, assign, body, hy, hR⟩ := hY _ (mk8 j k) wr hJ hlen
          simp only [encS, mk8_x (show j < 8 by omega) (show k < 8 by omega)] at hy
          have hs := rowOf_succ j k
          have HS := Go.Lib.hid hs
          clear hjk hlen hs
          gi_wp2
          refine hR.mono ?_
          rintro e W3 (⟨rfl, hJ3, hk3⟩ | ⟨rfl, hJx3⟩)
          · have H1' := Go.Lib.hid (hk3.1.trans H1.out); have H2' := Go.Lib.hid (hk3.2.trans H2.out)
            clear hk3 H1 H2
            gi_wp2
            go_roundw
            case rel => exact ⟨j + 1, by omega, by go_num, by rw [HS.out, ← List.append_assoc]; exact hJ3, H1'.out, H2'.out⟩
            case measure => simp [intOf]; omega
          · gi_wp2
            refine bodyPost_ret (results_none rfl _ _ _) rfl ?_
            exact ⟨⟨_, rfl⟩, .inr ⟨_, trivial, hJx3⟩⟩
        · obtain rfl : j = a := by omega
          gi_wp2
          go_roundw
          case rel => exact ⟨k + 1, by omega, by go_num, by rw [cellsL_succ]; exact hJ, H1.out, H2.out⟩
          case measure => simp [intOf]; omega
    · obtain rfl : k = c := by omega
      gi_wp2
      go_end0
      exact ⟨⟨_, rfl⟩, .inl ⟨_, rfl, hJ⟩⟩
theorem cells_seq (n : Nat) (hn : 1 ≤ n) (b1 b2 a c : Nat) (ha : a ≤ 8) (hc : c ≤ 8) (w : World) (h1 : w.heap[b1]? = some (.cells #[.int .i8 c] 23)) (h2 : w.heap[b2]? = some (.cells #[.int .i8 a] 23)) :
    SeqStopsK Fence.wide n Tryd.prog 111 #[.pointer (some ⟨b1, 0, none⟩), .pointer (some ⟨b2, 0, none⟩)] encS (Kp2 b1 b2) (fun ys => ys = cellsL a c) (fun _ => True) (a * c) w := fun l J Jx W hW _ _ hY h0 =>
  cells1_in Fence.wide n trivial rfl hn l b1 b2 a c ha hc J Jx hY W ((hW.block _ (row_lt h1)).trans h1) ((hW.block _ (row_lt h2)).trans h2) h0
theorem keeps_below {B : Nat} {W W' : World} (h : Below W.heap.size W W') : KeepsFrom B W W' := ⟨h.size, fun k o _ hk _ => (h.block k (row_lt hk)).trans hk⟩
theorem keeps_setRow {B b : Nat} {W : World} {cs' : Array Value} {t : TypeId} (h : W.heap[b]? = some (.cells cs' t)) (cs : Array Value) : KeepsFrom B W (W.setRow b cs) := by
  refine ⟨by simp, fun k o _ hk ho => ?_⟩
  by_cases e : k = b
  · subst e; rw [h] at hk; cases hk; simp [Obj.isCells] at ho
  · exact (setRow_other W b k cs (by omega)).trans hk
theorem own_row {β : Type} {B b : Nat} {o : Obj} (hb : b < B) : OwnFrom B (fun (_ : β) W => W.heap[b]? = some o) := fun _ W W' row hs hg hr =>
  (hg.block b (row_lt hs) (fun e => by have := (hr b e.symm).1; omega)).trans hs
theorem own_pure {β : Type} {B : Nat} (p : β → Prop) : OwnFrom B (fun (s : β) (_ : World) => p s) := fun _ _ _ _ hs _ _ => hs
theorem Kp2.of_lt {b1 b2 : Nat} {A B : World} (h : Below A.heap.size A B) (h1 : b1 < A.heap.size) (h2 : b2 < A.heap.size) : Kp2 b1 b2 A B := Kp2.of_below h h1 h2
theorem Kp2.setRow {b1 b2 g : Nat} {A B : World} (h : Kp2 b1 b2 A B) (h1 : b1 ≠ g) (h2 : b2 ≠ g) (cs : Array Value) : Kp2 b1 b2 A (B.setRow g cs) :=
  ⟨(setRow_other B g b1 cs h1).trans h.1, (setRow_other B g b2 cs h2).trans h.2⟩
/-- A STORE of m cells, run. -/
theorem run_storemid {P : Program} {o : Oper} {a : Act} {w : World} (ty : TypeId) (x y : Operand) (ho : o.op = .store ty x y)
    (b off : Nat) (hx : a.eval x = .pointer (some ⟨b, off, none⟩)) (n m : Nat) (f g : Nat → Value) (hy : a.eval y = .agg (vrow m g)) (t : TypeId) (hi : (P.info? ty).map (·.size) = some m)
    (hg : w.heap[b]? = some (.cells (vrow n f) t)) (hb : off + m ≤ n) (h1 : ∀ i, i < m → (g i).oneCell' = true) : (execOp a.eval o).run P w = .ok .skip (w.setRow b (vrow n (over f off m g))) := by
  have hs := run_storeCells_at (P := P) b off t (vrow m g).toList 0 (vrow n f) w hg (by simp [vrow_size]; omega) (fun v hv => by
    simp [vrow] at hv; obtain ⟨i, hi, rfl⟩ := hv; exact h1 i hi)
  have hm : (vrow m g).toList.length = m := by simp [vrow_size]
  rw [hm, Nat.add_zero, vrow_mid n off m f g hb] at hs
  have hrun : (storeVar ty ⟨b, off, none⟩ (.agg (vrow m g))).run P w = .ok () (w.setRow b (vrow n (over f off m g))) := by
    cases hq : P.info? ty with
    | none => simp [hq] at hi
    | some i =>
      have hs' : (vrow m g).size = i.size := by simp [hq] at hi; rw [vrow_size]; omega
      simp [storeVar, sizeOf, typeInfo, hq, Value.cells, hs', hs]
  unfold execOp
  simp only [ho, hx, hy, Instr.storeAt, Instr.sureAddr, Sem.run_bind, Sem.run_pure, Result.andThen_ok, hrun]
theorem run_store1 {P : Program} {o : Oper} {a : Act} {w : World} (ty : TypeId) (x y : Operand) (ho : o.op = .store ty x y)
    (b off : Nat) (hx : a.eval x = .pointer (some ⟨b, off, none⟩)) (n : Nat) (f : Nat → Value) (v : Value) (hy : a.eval y = v) (t : TypeId) (hi : (P.info? ty).map (·.size) = some 1)
    (hg : w.heap[b]? = some (.cells (vrow n f) t)) (hb : off < n) (h1 : v.oneCell' = true) : (execOp a.eval o).run P w = .ok .skip (w.setRow b (vrow n (over f off 1 fun _ => v))) := by
  have hcs : v.cells = #[v] := by cases v <;> first | rfl | cases h1
  have hs := run_storeCells_at (P := P) b off t [v] 0 (vrow n f) w hg (by simp [vrow_size]; omega) (fun u hu => by simp at hu; rw [hu]; exact h1)
  have hm := vrow_mid n off 1 f (fun _ => v) (by omega)
  rw [show (vrow 1 fun _ => v).toList = [v] from rfl] at hm
  simp only [List.length_singleton, Nat.add_zero, hm] at hs
  have hrun : (storeVar ty ⟨b, off, none⟩ v).run P w = .ok () (w.setRow b (vrow n (over f off 1 fun _ => v))) := by
    cases hq : P.info? ty with
    | none => simp [hq] at hi
    | some i =>
      have hs' : i.size = 1 := by simpa [hq] using hi
      simp [storeVar, sizeOf, typeInfo, hq, hcs, hs', hs]
  unfold execOp
  simp only [ho, hx, hy, Instr.storeAt, Instr.sureAddr, Sem.run_bind, Sem.run_pure, Result.andThen_ok, hrun]
theorem wpListIn_skipped {r n : Nat} {P : Program} {ops : Array Oper} {Q : Exit → Act → World → Prop} {rest : List Oper} {o : Oper} {a : Act} {w w' : World} (hgd : o.guard = none) (hd : ∀ c, o.op ≠ .defer c)
    (hrun : (execOp a.eval o).run P w = .ok .skip w') (h : wpListIn (Fence.wide.inRound r) n P ops Q rest (a.put o.dst undef) w') : wpListIn (Fence.wide.inRound r) n P ops Q (o :: rest) a w := by
  refine wpListIn_plain hgd fun K hK => ⟨fun _ _ => trivial, ?_⟩
  show o.uponIn _ n P a K Q ((o.semAt (some r) a.eval).run P w)
  rw [Oper.semAt_eq _ _ _ hd, hrun]
  exact hK _ _ h
/-- STORE of a whole row, in a round. -/
theorem wpListIn_storeall {r n' : Nat} {P : Program} {ops : Array Oper} {rest : List Oper} {o : Oper} {a : Act} {w : World} {Q : Exit → Act → World → Prop} (hgd : o.guard = none) (ty : TypeId) (x y : Operand) (ho : o.op = .store ty x y)
    (b : Nat) (hx : a.eval x = .pointer (some ⟨b, 0, none⟩)) (n : Nat) (f g : Nat → Value) (hy : a.eval y = .agg (vrow n g)) (t : TypeId) (hi : (P.info? ty).map (·.size) = some n)
    (hg : w.heap[b]? = some (.cells (vrow n f) t)) (h1 : ∀ i, i < n → (g i).oneCell' = true)
    (h : wpListIn (Fence.wide.inRound r) n' P ops Q rest (a.put o.dst undef) (w.setRow b (vrow n g))) : wpListIn (Fence.wide.inRound r) n' P ops Q (o :: rest) a w :=
  wpListIn_skipped hgd (fun c hc => by rw [ho] at hc; cases hc) (run_storemid ty x y ho b 0 hx n n f g hy t hi hg (by omega) h1) (by rw [vrow_over_all]; exact h)
/-- STORE of one cell, in a round. -/
theorem wpListIn_store1 {r n' : Nat} {P : Program} {ops : Array Oper} {rest : List Oper} {o : Oper} {a : Act} {w : World} {Q : Exit → Act → World → Prop} (hgd : o.guard = none) (ty : TypeId) (x y : Operand) (ho : o.op = .store ty x y)
    (b off : Nat) (hx : a.eval x = .pointer (some ⟨b, off, none⟩)) (n : Nat) (f : Nat → Value) (v : Value) (hy : a.eval y = v) (t : TypeId) (hi : (P.info? ty).map (·.size) = some 1)
    (hg : w.heap[b]? = some (.cells (vrow n f) t)) (hb : off < n) (h1 : v.oneCell' = true)
    (h : wpListIn (Fence.wide.inRound r) n' P ops Q rest (a.put o.dst undef) (w.setRow b (vrow n (over f off 1 fun _ => v)))) : wpListIn (Fence.wide.inRound r) n' P ops Q (o :: rest) a w :=
  wpListIn_skipped hgd (fun c hc => by rw [ho] at hc; cases hc) (run_store1 ty x y ho b off hx n f v hy t hi hg hb h1) h
/-- A RANGE OVER cells(..), its variable boxed. -/
theorem wp_cells {g : Operand} {p d : Tmp} {assign body : Code} {Q : Exit → Act → World → Prop} {a : Act} {w : World} (b1 b2 aa cc : Nat) (haa : aa ≤ 8) (hcc : cc ≤ 8)
    (hg : a.eval g = .func (.func 111) #[] #[.pointer (some ⟨b1, 0, none⟩), .pointer (some ⟨b2, 0, none⟩)])
    (h1 : w.heap[b1]? = some (.cells #[.int .i8 cc] 23)) (h2 : w.heap[b2]? = some (.cells #[.int .i8 aa] 23))
    (I : List Sp8 → World → Prop) (Ix : Code → List Sp8 → World → Prop) (hI : OwnFrom w.heap.size I) (hIx : ∀ c, OwnFrom w.heap.size (Ix c)) (h0 : I [] w)
    (hassign : ∀ (l : Nat) (x : Sp8) (W : World) (K : Act → World → Prop), K { tmps := (a.tmps.setIfInBounds p (.agg #[.int .i8 x.1.1, .int .i8 x.1.2])).setIfInBounds d (.pointer (some ⟨W.heap.size, 0, none⟩)), defers := [] } (W.alloc (.cells (vrow 2 (spAt x.1.1 x.1.2)) 105)) →
      assign.wpIn (Fence.wide.inRound l) 7 Tryd.prog (Exit.then K (fun _ _ _ => False)) { tmps := a.tmps.setIfInBounds p (.agg #[.int .i8 x.1.1, .int .i8 x.1.2]), defers := [] } W)
    (hbody : ∀ (l : Nat) (pre : List Sp8) (x : Sp8) (Wb W : World) (Bx : Nat), Below Wb.heap.size Wb W → w.heap.size ≤ Bx → W.heap[Bx]? = some (.cells (vrow 2 (spAt x.1.1 x.1.2)) 105) → w.heap.size ≤ Wb.heap.size → I pre W → pre.length < aa * cc →
      body.wpIn (Fence.wide.inRound l) 7 Tryd.prog (ownPostG w.heap.size (Kp2 b1 b2) I Ix (pre ++ [x]) Wb) { tmps := (a.tmps.setIfInBounds p (.agg #[.int .i8 x.1.1, .int .i8 x.1.2])).setIfInBounds d (.pointer (some ⟨Bx, 0, none⟩)), defers := [] } W)
    (hdone : ∀ (D : Nat) (W : World), w.heap.size ≤ D → I (cellsL aa cc) W → W.heap[D]? = some (.deferred (some [])) → Q .normal { a with defers := { target := .collected D, args := #[] } :: a.defers } W)
    (hstop : ∀ (D : Nat) (c : Code) (pre : List Sp8) (W : World), w.heap.size ≤ D → Ix c pre W → W.heap[D]? = some (.deferred (some [])) → c.wp Tryd.prog Q { a with defers := { target := .collected D, args := #[] } :: a.defers } W) :
    (Code.rangeFunc g #[p] assign body).wp Tryd.prog Q a w := by
  have hb1 := row_lt h1
  have hb2 := row_lt h2
  refine (wpIn_wide (n := 9)).1 ?_
  refine wpIn_rangeFunc_ownH (F := Fence.wide) (n := 9) rfl (by omega) (gf := 111) (lb := #[.pointer (some ⟨b1, 0, none⟩), .pointer (some ⟨b2, 0, none⟩)]) hg trivial (Go.Proofs.enters_of Tryd.func111 (by kernel_rfl) rfl)
    (cells_seq 8 (by omega) b1 b2 aa cc haa hcc w h1 h2) Kp2.t (Kp2.b hb1 hb2) (Below.refl _ _) (fun _ => rfl)
    (fun pre W => I pre W ∧ w.heap.size ≤ W.heap.size) Ix (fun s X Y row hs hg hr => ⟨hI s X Y row hs.1 hg hr, Nat.le_trans hs.2 hg.size⟩) hIx ⟨h0, Nat.le_refl _⟩
    (fun x a' W => ∃ Bx, w.heap.size ≤ Bx ∧ W.heap[Bx]? = some (.cells (vrow 2 (spAt x.1.1 x.1.2)) 105) ∧ a' = { tmps := (a.tmps.setIfInBounds p (.agg #[.int .i8 x.1.1, .int .i8 x.1.2])).setIfInBounds d (.pointer (some ⟨Bx, 0, none⟩)), defers := [] })
    (fun x a' _ X Y row hs hg hr => by
      obtain ⟨Bx, e1, e2, e3⟩ := hs
      refine ⟨Bx, e1, ?_, e3⟩
      refine (hg.block Bx (row_lt e2) fun e => ?_).trans e2
      obtain ⟨o, ho, hc⟩ := (hr Bx e.symm).2
      rw [e2] at ho; cases ho; simp [Obj.isCells] at hc)
    ?_ ?_ ?_ ?_
  · rintro l pre x W K ⟨hi, hsz⟩ hK
    have hk := Below.heap_alloc W (.cells (vrow 2 (spAt x.1.1 x.1.2)) 105)
    have e : (#[p].zip (encS x)).foldl (fun t (q, v) => t.setIfInBounds q v) a.tmps = a.tmps.setIfInBounds p (.agg #[.int .i8 x.1.1, .int .i8 x.1.2]) := by simp [encS]
    rw [e]
    exact hassign l x W K (hK _ _ ((KeepsOthers.alloc _ _).from _) ⟨hk _ (by omega), hk _ (by omega)⟩ ⟨hI.alloc _ hi, by simp; omega⟩ ⟨W.heap.size, hsz, heap_at _ _ _ rfl, rfl⟩)
  · rintro l pre x a' W hl _ ⟨hi, hsz⟩ ⟨Bx, e1, e2, rfl⟩ hlen
    refine wpIn_mono (hbody l pre x W W Bx (Below.refl _ _) e1 e2 hsz hi hlen) ?_
    intro e a2 W2 hq
    cases e <;> first | exact hq | exact ⟨hq.1, hq.2.1, hq.2.2, Nat.le_trans hsz hq.1.size⟩
  · rintro D xs W hD rfl ⟨hi, _⟩ hd
    exact hdone D W hD hi hd
  · rintro D c pre W hD _ hx hd
    exact (wpIn_wide (n := 9)).2 (hstop D c pre W hD hx hd)
end Go.Proofs.YtfhfiaphdgfmnaaDoor
namespace Go.Proofs.YtfhfiaphdgfmnaaDoor
open Go.RowKit
set_option linter.unusedVariables false
theorem yields_row {P : Program} {ops : Array Oper} {S : World → Prop} {o : Oper} {a : Act} (hw : Region.wanted o (yielded ops a.tmps) = true) (ty : TypeId) (x : Operand) (ho : o.op = .load ty x)
    (b : Nat) (hx : a.eval x = .pointer (some ⟨b, 0, none⟩)) (n : Nat) (f : Nat → Value) (t : TypeId) (d : TypeDesc) (hu : P.underlying ty = some d) (hd : d.isRow = true) (hi : (P.info? ty).map (·.size) = some n)
    (hS : ∀ w, S w → w.heap[b]? = some (.cells (vrow n f) t)) : YieldsIf P ops S o (.agg (vrow n f)) a :=
  .inl ⟨hw, fun w hw' => by
    have hg := hS w hw'
    have hr := run_loadAt_mid (P := P) w b 0 ty ((List.range n).map fun i => f (0 + i)) d (fun j v hj => by
      have hjm : j < n := by
        by_cases c : j < n
        · exact c
        · rw [List.getElem?_eq_none (by simp; omega)] at hj; cases hj
      rw [cell_row hg (by omega)]
      simp [hjm] at hj; rw [Nat.zero_add, hj]) hu hd (by simpa using hi)
    unfold execOp
    simp only [ho, hx, Sem.run_bind, hr, Result.andThen_ok, Sem.run_pure]
    simp [vrow]⟩
theorem yields_one {P : Program} {ops : Array Oper} {S : World → Prop} {o : Oper} {a : Act} (hw : Region.wanted o (yielded ops a.tmps) = true) (ty : TypeId) (x : Operand) (ho : o.op = .load ty x)
    (b off : Nat) (hx : a.eval x = .pointer (some ⟨b, off, none⟩)) (n : Nat) (f : Nat → Value) (t : TypeId) (d : TypeDesc) (hu : P.underlying ty = some d) (hd : d.isRow = false) (hb : off < n)
    (hS : ∀ w, S w → w.heap[b]? = some (.cells (vrow n f) t)) : YieldsIf P ops S o (f off) a :=
  .inl ⟨hw, fun w hw' => by
    have hc := cell_row (hS w hw') hb
    unfold execOp
    simp only [ho, hx, Instr.loadAt, Instr.sureAddr, Sem.run_bind, Sem.run_pure, Result.andThen_ok, loadVar, run_isAgg_row w ty d hu, hd, Bool.false_eq_true, if_false, run_load, hc]⟩
end Go.Proofs.YtfhfiaphdgfmnaaDoor
namespace Go.Proofs.YtfhfiaphdgfmnaaDoor
open Go.RowKit
set_option linter.unusedVariables false
set_option linter.unusedSimpArgs false
theorem region_gen {P : Program} {Q : Exit → Act → World → Prop} {id : Nat} {ops : Array Oper} {a : Act} {w : World} (h : ∀ O, O = ops → (Code.region id O true).wp P Q a w) : (Code.region id ops true).wp P Q a w := h ops rfl
theorem wpAnyH_at {P : Program} {md : Region.Mode} {ops : Array Oper} {Q : Exit → Act → World → Prop} {S : World → Prop} {fuel : Nat} {listed : Array Bool} {a : Act} {w : World} (n : Nat) (l : Array Bool) (hn : fuel = n) (hl : listed = l) (h : wpAnyH P md ops Q S n l a w) : wpAnyH P md ops Q S fuel listed a w := by
  subst hn hl; exact h
theorem vrow_all0 (n : Nat) (f : Nat → Value) : vrow n (fun i => f (0 + i)) = vrow n f := vrow_ext _ _ _ fun i _ => by rw [Nat.zero_add]
end Go.Proofs.YtfhfiaphdgfmnaaDoor
namespace Go.Proofs.YtfhfiaphdgfmnaaDoor
open Go.RowKit
set_option linter.unusedVariables false
set_option linter.unusedSimpArgs false
theorem size_i3 : (Tryd.prog.info? 50).map (·.size) = some 3 := by kernel_rfl
theorem rw_i3 : (Tryd.prog.underlying 50).map (·.isRow) = some true := by kernel_rfl
theorem size_i64c : (Tryd.prog.info? 2).map (·.size) = some 1 := by kernel_rfl
theorem zero_i3 : ∀ w, (zeroValue 50).run Tryd.prog w = .ok (.agg (vrow 3 fun _ => .int .i64 0)) w := fun _ => by kernel_rfl
theorem built_zi3 : Tryd.prog.built 50 [] = some (vrow 3 fun _ => .int .i64 0) := by kernel_rfl
theorem yields_b {P : Program} {ops : Array Oper} {S : World → Prop} {o : Oper} {a : Act} (hw : Region.wanted o (yielded ops a.tmps) = true) (t : TypeId) (parts : List (Nat × Operand)) (ho : o.op = .build t parts.toArray)
    (l : List (Nat × Value)) (hl : (parts.map fun p => (p.1, a.eval p.2)) = l) (cells : Array Value) (hc : P.built t l = some cells) : YieldsIf P ops S o (.agg cells) a :=
  .inl ⟨hw, fun w _ => by
    have e : ((parts.toArray.map fun (i, x) => (i, a.eval x)).toList) = l := by rw [← hl]; simp
    unfold execOp
    simp only [ho, Sem.run_bind, run_build w t _ cells (by rw [e]; exact hc), Result.andThen_ok]
    rfl⟩
theorem yields_m {P : Program} {ops : Array Oper} {S : World → Prop} {o : Oper} {a : Act} (hw : Region.wanted o (yielded ops a.tmps) = true) (ty : TypeId) (x : Operand) (ho : o.op = .load ty x)
    (b off : Nat) (hx : a.eval x = .pointer (some ⟨b, off, none⟩)) (n m : Nat) (f : Nat → Value) (r : Array Value) (hbd : off + m ≤ n) (t : TypeId) (d : TypeDesc) (hu : P.underlying ty = some d) (hd : d.isRow = true) (hi : (P.info? ty).map (·.size) = some m)
    (hr : vrow m (fun i => f (off + i)) = r) (hS : ∀ w, S w → w.heap[b]? = some (.cells (vrow n f) t)) : YieldsIf P ops S o (.agg r) a :=
  .inl ⟨hw, fun w hw' => by
    have hg := hS w hw'
    have hrun := run_loadAt_mid (P := P) w b off ty ((List.range m).map fun i => f (off + i)) d (fun j v hj => by
      have hjm : j < m := by
        by_cases c : j < m
        · exact c
        · rw [List.getElem?_eq_none (by simp; omega)] at hj; cases hj
      rw [cell_row hg (by omega)]
      simp [hjm] at hj; rw [hj]) hu hd (by simpa using hi)
    unfold execOp
    simp only [ho, hx, Sem.run_bind, hrun, Result.andThen_ok, Sem.run_pure]
    rw [← hr]; simp [vrow]⟩
set_option maxHeartbeats 400000 in
theorem eqI3_any (g : Nat → Int) (w : World) : Calls Tryd.prog 26 #[.agg (vrow 3 (fun i => .int .i64 (g i))), .agg (vrow 3 (fun i => .int .i64 (g i)))] w fun e w' => e = .returned (.bool true) ∧ Below w.heap.size w w' := by
  have hB : Hid (Below w.heap.size w ((w.alloc (.cells (vrow 3 (fun i => .int .i64 (g i))) 50)).alloc (.cells (vrow 3 (fun i => .int .i64 (g i))) 50))) := (((Below.refl w.heap.size w).alloc (by simp <;> omega) _).alloc (by simp <;> omega) _)
  have P : Hid (((w.alloc (.cells (vrow 3 (fun i => .int .i64 (g i))) 50)).alloc (.cells (vrow 3 (fun i => .int .i64 (g i))) 50)).heap[(w.heap.size)]? = some (.cells (vrow 3 (fun i => .int .i64 (g i))) 50)) := heap_past _ _ _ _ (by first | omega | (simp <;> omega)) (heap_at _ _ _ (by simp))
  have R : Hid (((w.alloc (.cells (vrow 3 (fun i => .int .i64 (g i))) 50)).alloc (.cells (vrow 3 (fun i => .int .i64 (g i))) 50)).heap[(w.heap.size + 1)]? = some (.cells (vrow 3 (fun i => .int .i64 (g i))) 50)) := heap_at _ _ _ (by simp)
  go_enter Tryd.func26, Tryd.ntmps26
  go_wp2
  go_loopw [5] (fun i wr => ∃ k : Nat, k ≤ 3 ∧ i = .int .i64 k ∧ Below w.heap.size w wr ∧ wr.heap[w.heap.size]? = some (.cells (vrow 3 (fun i => .int .i64 (g i))) 50) ∧ wr.heap[w.heap.size + 1]? = some (.cells (vrow 3 (fun i => .int .i64 (g i))) 50)) (fun i _ => 3 - (intOf i).toNat)
  case atStart => exact ⟨0, by omega, rfl, hB.out, P.out, R.out⟩
  case round =>
    clear hB P R
    obtain ⟨k, hk, rfl, hB, P, R⟩ := hrel
    replace hB := Go.Lib.hid hB; replace P := Go.Lib.hid P; replace R := Go.Lib.hid R
    by_cases hlt : k < 3
    · have hxI : (k : Int) < 3 := by omega
      have c1 : wr.cell? ⟨w.heap.size, k, none⟩ = some (.int .i64 (g k)) := cell_row P.out hlt
      have c2 : wr.cell? ⟨w.heap.size + 1, k, none⟩ = some (.int .i64 (g k)) := cell_row R.out hlt
      go_wp2
      go_quiet (fail)
      go_wp2
      go_roundw
      case rel => exact ⟨k + 1, by omega, by go_num, below_drewN hB.out _, P.out, R.out⟩
      case measure => simp [intOf]; omega
    · obtain rfl : k = 3 := by omega
      go_wp2
      go_ret
      exact ⟨rfl, hB.out⟩
end Go.Proofs.YtfhfiaphdgfmnaaDoor
namespace Go.Proofs.YtfhfiaphdgfmnaaDoor
open Go.RowKit
set_option linter.unusedVariables false
set_option linter.unusedSimpArgs false
theorem grown_refl (w : World) (row : Option Nat) : w.grownBy w row := ⟨rfl, rfl, rfl, Nat.le_refl _, fun _ _ _ => rfl⟩
theorem grown_next {W W1 W2 : World} {row : Option Nat} (h : W.grownBy W1 row) (hb : Below W1.heap.size W1 W2) : W.grownBy W2 row :=
  ⟨hb.os.trans h.os, hb.tape.trans h.tape, hb.output.trans h.output, Nat.le_trans h.size hb.size, fun k hk hne => (hb.block k (Nat.lt_of_lt_of_le hk h.size)).trans (h.block k hk hne)⟩
theorem grown_drew {W W1 : World} {row : Option Nat} (h : W.grownBy W1 row) : W.grownBy W1.drew row := ⟨h.os, h.tape, h.output, h.size, h.block⟩
theorem grown_alloc {W W1 : World} {row : Option Nat} (h : W.grownBy W1 row) (o : Obj) : W.grownBy (W1.alloc o) row := grown_next h ((Below.refl _ _).alloc (Nat.le_refl _) _)
theorem grown_set {W W1 : World} {g : Nat} (h : W.grownBy W1 (some g)) (cs : Array Value) : W.grownBy (W1.setRow g cs) (some g) :=
  ⟨h.os, h.tape, h.output, by simpa using h.size, fun k hk hne => (setRow_other W1 g k cs (fun e => hne (by rw [e]))).trans (h.block k hk hne)⟩
theorem keeps_grown {B g : Nat} {W W' : World} {cs : Array Value} {t : TypeId} (hc : W.heap[g]? = some (.cells cs t)) (h : W.grownBy W' (some g)) : KeepsFrom B W W' := by
  refine ⟨h.size, fun k o _ hk ho => ?_⟩
  by_cases e : k = g
  · subst e; rw [hc] at hk; cases hk; simp [Obj.isCells] at ho
  · exact (h.block k (row_lt hk) (by simpa using e)).trans hk
theorem kp2_grown {b1 b2 g : Nat} {W W' : World} (h : W.grownBy W' (some g)) (h1 : b1 < W.heap.size) (h2 : b2 < W.heap.size) (n1 : b1 ≠ g) (n2 : b2 ≠ g) : Kp2 b1 b2 W W' :=
  ⟨h.block b1 h1 (by simpa using n1), h.block b2 h2 (by simpa using n2)⟩
end Go.Proofs.YtfhfiaphdgfmnaaDoor
