import Derived.Test.YtianedkknlggmaaXLib2
import Derived.Test.YtianedkknlggmaaCells
namespace Go.Proofs.Ytianedkknlggmaa
open Go.RowKit
set_option maxRecDepth 100000
set_option linter.unusedVariables false
set_option linter.unusedSimpArgs false
theorem grown_refl (w : World) (row : Option Nat) : w.grownBy w row := ⟨rfl, rfl, rfl, Nat.le_refl _, fun _ _ _ => rfl⟩
theorem grown_next {W W1 W2 : World} {row : Option Nat} (h : W.grownBy W1 row) (hb : Below W1.heap.size W1 W2) : W.grownBy W2 row :=
  ⟨hb.os.trans h.os, hb.tape.trans h.tape, hb.output.trans h.output, Nat.le_trans h.size hb.size, fun k hk hne => (hb.block k (Nat.lt_of_lt_of_le hk h.size)).trans (h.block k hk hne)⟩
theorem grown_drew {W W1 : World} {row : Option Nat} (h : W.grownBy W1 row) : W.grownBy W1.drew row := ⟨h.os, h.tape, h.output, h.size, h.block⟩
theorem grown_alloc {W W1 : World} {row : Option Nat} (h : W.grownBy W1 row) (o : Obj) : W.grownBy (W1.alloc o) row := grown_next h ((Below.refl _ _).alloc (Nat.le_refl _) _)
theorem grown_set {W W1 : World} {g : Nat} (h : W.grownBy W1 (some g)) (cs : Array Value) : W.grownBy (W1.setRow g cs) (some g) :=
  ⟨h.os, h.tape, h.output, by simpa using h.size, fun k hk hne => (setRow_other W1 g k cs (fun e => hne (by rw [e]))).trans (h.block k hk hne)⟩
theorem keeps_grown {B g : Nat} {W W' : World} {cs : Array Value} {t : TypeId} (hc : W.heap[g]? = some (.cells cs t)) (h : W.grownBy W' (some g)) : KeepsFrom B W W' := by
  refine ⟨h.size, fun k o _ hk ho => ?_⟩
  by_cases e : k = g
  · subst e; rw [hc] at hk; cases hk; simp [Obj.isCells] at ho
  · exact (h.block k (row_lt hk) (by simpa using e)).trans hk
theorem kp2_grown {b1 b2 g : Nat} {W W' : World} (h : W.grownBy W' (some g)) (h1 : b1 < W.heap.size) (h2 : b2 < W.heap.size) (n1 : b1 ≠ g) (n2 : b2 ≠ g) : Kp2 b1 b2 W W' :=
  ⟨h.block b1 h1 (by simpa using n1), h.block b2 h2 (by simpa using n2)⟩
end Go.Proofs.Ytianedkknlggmaa
