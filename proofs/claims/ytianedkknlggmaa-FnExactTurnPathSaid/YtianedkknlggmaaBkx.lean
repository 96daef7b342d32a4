import Derived.Test.YtianedkknlggmaaBkw
namespace Go.Proofs.Ytianedkknlggmaa
open Go.RowKit
set_option maxRecDepth 100000
set_option linter.unusedVariables false
set_option linter.unusedSimpArgs false
theorem Kp2.bB {b1 b2 : Nat} {w : World} (h1 : b1 < w.heap.size) (h2 : b2 < w.heap.size) (W : World) (l : Nat) (o o' : Obj) (hl : w.heap.size ≤ l) (h3 : W.heap[l]? = some o) (h4 : o.isCells = false) (h5 : o.isWalk = false) : Kp2 b1 b2 W (W.putObj l o') := Kp2.b h1 h2 W l o o' hl h3 h4 h5
/-- A RANGE OVER slices.Backward(a slice of spots), its variable boxed. -/
theorem wp_back {g : Operand} {p q d : Tmp} {assign body : Code} {Q : Exit → Act → World → Prop} {a : Act} {w : World} (b D n : Nat) (px py : Nat → Int) (hn : n ≤ 1048576)
    (hg : a.eval g = .func (.func 101) #[] #[.pointer (some ⟨b, 0, none⟩)])
    (h1 : w.heap[b]? = some (.cells (vrow 1 fun _ => .slice (some ⟨D, 0, none⟩) n n) 45)) (h2 : w.heap[D]? = some (.cells (vrow (n * 2) (spf px py)) 93))
    (I : List Nat → World → Prop) (Ix : Code → List Nat → World → Prop) (hI : OwnFrom w.heap.size I) (hIx : ∀ c, OwnFrom w.heap.size (Ix c)) (h0 : I [] w)
    (hassign : ∀ (l : Nat) (x : Nat) (W : World) (K : Act → World → Prop), K { tmps := ((a.tmps.setIfInBounds p (.int .i64 ((n : Int) - 1 - x))).setIfInBounds q (.agg #[.int .i8 (px (n - 1 - x)), .int .i8 (py (n - 1 - x))])).setIfInBounds d (.pointer (some ⟨W.heap.size, 0, none⟩)), defers := [] } (W.alloc (.cells (vrow 2 (spAt (px (n - 1 - x)) (py (n - 1 - x)))) 93)) →
      assign.wpIn (Fence.wide.inRound l) 7 Try.prog (Exit.then K (fun _ _ _ => False)) { tmps := ((a.tmps.setIfInBounds p (.int .i64 ((n : Int) - 1 - x))).setIfInBounds q (.agg #[.int .i8 (px (n - 1 - x)), .int .i8 (py (n - 1 - x))])), defers := [] } W)
    (hbody : ∀ (l : Nat) (pre : List Nat) (x : Nat) (Wb W : World) (Bx : Nat), Below Wb.heap.size Wb W → w.heap.size ≤ Bx → W.heap[Bx]? = some (.cells (vrow 2 (spAt (px (n - 1 - x)) (py (n - 1 - x)))) 93) → w.heap.size ≤ Wb.heap.size → I pre W → pre.length < n →
      body.wpIn (Fence.wide.inRound l) 7 Try.prog (ownPostG w.heap.size (Kp2 b D) I Ix (pre ++ [x]) Wb) { tmps := ((a.tmps.setIfInBounds p (.int .i64 ((n : Int) - 1 - x))).setIfInBounds q (.agg #[.int .i8 (px (n - 1 - x)), .int .i8 (py (n - 1 - x))])).setIfInBounds d (.pointer (some ⟨Bx, 0, none⟩)), defers := [] } W)
    (hdone : ∀ (E : Nat) (W : World), w.heap.size ≤ E → I (List.range n) W → W.heap[E]? = some (.deferred (some [])) → Q .normal { a with defers := { target := .collected E, args := #[] } :: a.defers } W)
    (hstop : ∀ (E : Nat) (c : Code) (pre : List Nat) (W : World), w.heap.size ≤ E → Ix c pre W → W.heap[E]? = some (.deferred (some [])) → c.wp Try.prog Q { a with defers := { target := .collected E, args := #[] } :: a.defers } W) :
    (Code.rangeFunc g #[p, q] assign body).wp Try.prog Q a w := by
  have hb1 := row_lt h1
  have hb2 := row_lt h2
  refine (wpIn_wide (n := 9)).1 ?_
  refine wpIn_rangeFunc_ownH (F := Fence.wide) (n := 9) rfl (by omega) (gf := 101) (lb := #[.pointer (some ⟨b, 0, none⟩)]) hg trivial (Go.Proofs.enters_of Try.func101 (by kernel_rfl) rfl)
    (back_seq 8 (by omega) b D n px py hn w h1 h2) Kp2.t (Kp2.bB hb1 hb2) (Below.refl _ _) (fun _ => rfl)
    (fun pre W => I pre W ∧ w.heap.size ≤ W.heap.size) Ix (fun s X Y row hs hg hr => ⟨hI s X Y row hs.1 hg hr, Nat.le_trans hs.2 hg.size⟩) hIx ⟨h0, Nat.le_refl _⟩
    (fun x a' W => ∃ Bx, w.heap.size ≤ Bx ∧ W.heap[Bx]? = some (.cells (vrow 2 (spAt (px (n - 1 - x)) (py (n - 1 - x)))) 93) ∧ a' = { tmps := ((a.tmps.setIfInBounds p (.int .i64 ((n : Int) - 1 - x))).setIfInBounds q (.agg #[.int .i8 (px (n - 1 - x)), .int .i8 (py (n - 1 - x))])).setIfInBounds d (.pointer (some ⟨Bx, 0, none⟩)), defers := [] })
    (fun x a' _ X Y row hs hg hr => by
      obtain ⟨Bx, e1, e2, e3⟩ := hs
      refine ⟨Bx, e1, ?_, e3⟩
      refine (hg.block Bx (row_lt e2) fun e => ?_).trans e2
      obtain ⟨o, ho, hc⟩ := (hr Bx e.symm).2
      rw [e2] at ho; cases ho; simp [Obj.isCells] at hc)
    ?_ ?_ ?_ ?_
  · rintro l pre x W K ⟨hi, hsz⟩ hK
    have hk := Below.heap_alloc W (.cells (vrow 2 (spAt (px (n - 1 - x)) (py (n - 1 - x)))) 93)
    have e : (#[p, q].zip (encB px py n x)).foldl (fun t (q, v) => t.setIfInBounds q v) a.tmps = ((a.tmps.setIfInBounds p (.int .i64 ((n : Int) - 1 - x))).setIfInBounds q (.agg #[.int .i8 (px (n - 1 - x)), .int .i8 (py (n - 1 - x))])) := by simp [encB]
    rw [e]
    exact hassign l x W K (hK _ _ ((KeepsOthers.alloc _ _).from _) ⟨hk _ (by omega), hk _ (by omega)⟩ ⟨hI.alloc _ hi, by simp; omega⟩ ⟨W.heap.size, hsz, heap_at _ _ _ rfl, rfl⟩)
  · rintro l pre x a' W hl _ ⟨hi, hsz⟩ ⟨Bx, e1, e2, rfl⟩ hlen
    refine wpIn_mono (hbody l pre x W W Bx (Below.refl _ _) e1 e2 hsz hi hlen) ?_
    intro e a2 W2 hq
    cases e <;> first | exact hq | exact ⟨hq.1, hq.2.1, hq.2.2, Nat.le_trans hsz hq.1.size⟩
  · rintro E xs W hD rfl ⟨hi, _⟩ hd
    exact hdone E W hD hi hd
  · rintro E c pre W hD _ hx hd
    exact (wpIn_wide (n := 9)).2 (hstop E c pre W hD hx hd)
theorem own_ownsRowB {β : Type} {B base size : Nat} {t : TypeId} (v : β → Value) (n : β → Nat) (xs : β → List Value) : OwnFrom B (fun (s : β) W => W.ownsRow base t size (v s) (n s) (xs s)) := fun s W W' row hs hg hr => by
  refine hs.kept hg ?_
  rcases hs.2 with ⟨hv, _⟩ | ⟨g, cap, cur, hv, _, hgb, _⟩
  · exact .inl (by rw [hv]; rfl)
  · refine .inr fun e => ?_
    rw [hv] at e
    obtain ⟨_, o, ho, hc⟩ := hr g e.symm
    rw [hgb] at ho
    cases ho
    simp [Obj.isCells] at hc
theorem own_rowDB {β : Type} {B b : Nat} {o : β → Obj} (hb : b < B) : OwnFrom B (fun (s : β) W => W.heap[b]? = some (o s)) := fun _ W W' row hs hg hr =>
  (hg.block b (row_lt hs) (fun e => by have := (hr b e.symm).1; omega)).trans hs
end Go.Proofs.Ytianedkknlggmaa
