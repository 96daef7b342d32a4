import Derived.Deep.RegionHeld3
import Derived.Test.YtfhfiaphdgfmnaaDoorG1
namespace Go.Proofs.YtfhfiaphdgfmnaaDoor
open Go.RowKit
set_option maxRecDepth 100000
set_option linter.unusedVariables false
set_option linter.unusedSimpArgs false
theorem own_row_ofK {W : World} {base g cap size n : Nat} {t : TypeId} {xs : List Value} (h : W.ownsRow base t size (.slice (some ⟨g, 0, none⟩) n cap) n xs) : ∃ f : Nat → Value, W.heap[g]? = some (.cells (vrow (cap * size) f) t) ∧ n ≤ cap ∧ ∀ (j : Nat) (u : Value), j < n * size → xs[j]? = some u → f j = u := by
  rcases h.2 with ⟨hv, _⟩ | ⟨g', cap', cur, hv, _, hg, hcap, _, hsz, ht⟩
  · cases hv
  · simp only [Value.slice.injEq, Option.some.injEq, Addr.mk.injEq] at hv
    obtain ⟨⟨rfl, _⟩, _, rfl⟩ := hv
    refine ⟨fun i => cur.getD i undef, ?_, hcap, ?_⟩
    · rw [hg]
      congr 2
      apply Array.ext_getElem?
      intro i
      by_cases hi : i < cap * size
      · rw [vrow_get _ _ _ hi, Array.getD_eq_getD_getElem?, Array.getElem?_eq_getElem (by omega)]; rfl
      · rw [vrow_none _ _ _ hi, Array.getElem?_eq_none (by omega)]
    · intro j u hj hu
      show cur.getD j undef = u
      rw [← ht, List.getElem?_take, if_pos hj] at hu
      rw [Array.getD_eq_getD_getElem?]
      simp only [Array.getElem?_toList] at hu
      rw [hu]; rfl
theorem info_partsK {P : Program} {t : TypeId} {z : Value} {n m : Nat} (h : (P.info? t).map (fun i => (i.zero, i.size, i.bytes)) = some (some z, n, m)) : ∃ i, P.info? t = some i ∧ i.zero = some z ∧ i.size = n ∧ i.bytes = m := by
  obtain ⟨i, hi, hzz⟩ := Option.map_eq_some_iff.1 h
  simp only [Prod.mk.injEq] at hzz
  exact ⟨i, hi, hzz.1, hzz.2.1, hzz.2.2⟩
theorem wpList_bsl {P : Program} {ops : Array Oper} {rest : List Oper} {o : Oper} {a : Act} {w : World} {Q : Exit → Act → World → Prop} (hgd : o.guard = none) (t : TypeId) (x : Operand) (hop : o.op = .buildSlice t 1 #[(0, x)]) (v : Value) (hx : a.eval x = v) (e : TypeId) (cs : Array Value)
    (hr : (Instr.buildSlice t 1 #[(0, v)]).run P w = .ok (.slice (some ⟨w.heap.size, 0, none⟩) 1 1) (w.alloc (.cells cs e)))
    (h : wpList P ops Q rest (a.put o.dst (.slice (some ⟨w.heap.size, 0, none⟩) 1 1)) (w.alloc (.cells cs e))) : wpList P ops Q (o :: rest) a w := by
  refine wpList_plain hgd fun K hK => ?_
  unfold Oper.wp
  simp [execOp, hop, hx, hr, Result.andThen]
  exact hK _ _ h
end Go.Proofs.YtfhfiaphdgfmnaaDoor
