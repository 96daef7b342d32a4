import Derived.Test.YtfhfiaphdgfmnaaDoorPB1
namespace Go.Proofs.YtfhfiaphdgfmnaaDoor
open Go.RowKit
set_option maxRecDepth 100000
set_option linter.unusedVariables false
set_option linter.unusedSimpArgs false
theorem Kp2.bB {b1 b2 : Nat} {w : World} (h1 : b1 < w.heap.size) (h2 : b2 < w.heap.size) (W : World) (l : Nat) (o o' : Obj) (hl : w.heap.size ≤ l) (h3 : W.heap[l]? = some o) (h4 : o.isCells = false) (h5 : o.isWalk = false) : Kp2 b1 b2 W (W.putObj l o') := Kp2.b h1 h2 W l o o' hl h3 h4 h5
theorem own_ownsRowB {β : Type} {B base size : Nat} {t : TypeId} (v : β → Value) (n : β → Nat) (xs : β → List Value) : OwnFrom B (fun (s : β) W => W.ownsRow base t size (v s) (n s) (xs s)) := fun s W W' row hs hg hr => by
  refine hs.kept hg ?_
  rcases hs.2 with ⟨hv, _⟩ | ⟨g, cap, cur, hv, _, hgb, _⟩
  · exact .inl (by rw [hv]; rfl)
  · refine .inr fun e => ?_
    rw [hv] at e
    obtain ⟨_, o, ho, hc⟩ := hr g e.symm
    rw [hgb] at ho
    cases ho
    simp [Obj.isCells] at hc
theorem own_rowDB {β : Type} {B b : Nat} {o : β → Obj} (hb : b < B) : OwnFrom B (fun (s : β) W => W.heap[b]? = some (o s)) := fun _ W W' row hs hg hr =>
  (hg.block b (row_lt hs) (fun e => by have := (hr b e.symm).1; omega)).trans hs
end Go.Proofs.YtfhfiaphdgfmnaaDoor
