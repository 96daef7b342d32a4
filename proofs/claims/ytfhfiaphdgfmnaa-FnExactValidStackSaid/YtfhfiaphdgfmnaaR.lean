import Derived.Test.YtfhfiaphdgfmnaaValid
import Derived.RangeFuncNested
import Derived.RangeFuncBound
import Derived.RangeFuncCalls
import Derived.RangeFuncLeaves
import Derived.OwnWalkIn
import Derived.TacticsInMore
import Derived.LoopNIn
import Derived.LoopIn
namespace Go.Proofs.Ytfhfiaphdgfmnaa
open Go.RowKit
set_option maxRecDepth 100000
set_option linter.unusedVariables false
/-- The wide fence, in a round or in none. -/
abbrev FW (ro : Option Nat) : Fence := { Fence.wide with round := ro }
section
variable {ro : Option Nat} {n : Nat} {P : Program} {ops : Array Oper} {Q : Exit → Act → World → Prop} {C : World → Prop}
theorem callsFW {m : Nat} {f : FuncId} {args : Array Value} {w : World} {R : Ending → World → Prop} (h : Calls P f args w R) : CallsIn (FW ro) m P f args w R :=
  ((callsIn_wide (n := m)).2 h)
theorem not_defer {o : Oper} {a : Act} {w : World} {v : Value} (h : o.quietAt P a C w v) (c : Call) : o.op ≠ .defer c := by
  intro hc
  unfold Oper.quietAt at h
  simp only [execOp, hc, Sem.run_bind, Sem.run_pure] at h
  generalize (resolve a.eval c o.type).run P w = r at h
  cases r <;> simp [Result.andThen, Oper.quietUpon] at h
theorem wpIn_of_quiet {o : Oper} {a : Act} {K : Act → Prop} {K' : Act → World → Prop} {Q' : Exit → Act → World → Prop} {w : World} (hw : C w) (h : ∀ a w', C w' → K a → K' a w') (hh : o.quiet P a C K) : o.wpIn (FW ro) n P a w K' Q' := by
  obtain ⟨v, h1, h2⟩ := hh
  have h3 := h1 w hw
  have e : o.semAt ro a.eval = execOp a.eval o := Oper.semAt_eq ro _ _ (not_defer h3)
  refine ⟨fun _ _ => trivial, ?_⟩
  show o.uponIn (FW ro) n P a K' Q' ((o.semAt ro a.eval).run P w)
  rw [e]
  unfold Oper.quietAt at h3
  generalize (execOp a.eval o).run P w = r at *
  cases r with
  | ok n w' =>
    cases n <;> simp only [Oper.quietUpon] at h3 <;> simp only [Oper.uponIn]
    case value u =>
      obtain ⟨e1, e2⟩ := h3
      rw [e1, e2]
      exact h _ _ hw h2
    case skip =>
      obtain ⟨e1, e2⟩ := h3
      rw [e1, ← e2]
      exact h _ _ hw h2
    case enter f args =>
      obtain ⟨e1, hc⟩ := h3
      rw [e1]
      refine ⟨fun h => by simp [Fence.wide] at h, ?_⟩
      exact callsFW (hc.mono fun e w'' ⟨he, hw''⟩ => by subst he; exact h _ _ hw'' h2)
  | halt x w' => simp only [Oper.quietUpon] at h3
theorem wpListIn_of_quiet : ∀ (l : List Oper) (a : Act) (w : World), C w → wpQuiet P ops C (fun a' => ∀ w', C w' → Q .normal a' w') l a → wpListIn (FW ro) n P ops Q l a w
  | [], _, w, hw, h => h w hw
  | o :: rest, a, w, hw, h => by
    unfold wpQuiet at h
    refine wpListIn_step fun K hK => ?_
    split
    · rename_i hg
      rw [if_pos hg] at h
      exact wpIn_of_quiet hw (fun a' w' hw' h' => hK a' w' (wpListIn_of_quiet rest a' w' hw' h')) h
    · rename_i hg
      rw [if_neg hg] at h
      exact ⟨fun _ _ => trivial, hK _ _ (wpListIn_of_quiet rest _ w hw h)⟩
theorem wpOpIn_of_qOp {i : Nat} {a : Act} {K : Act → Prop} {K' : Act → World → Prop} {Q' : Exit → Act → World → Prop} {w : World} (hC : C w) (h : ∀ a w', C w' → K a → K' a w') (hh : qOp P ops C i K a) : wpOpIn (FW ro) n P ops Q' i K' a w := by
  unfold qOp at hh
  unfold wpOpIn
  cases ho : ops[i]? with
  | none => simp only [ho] at hh ⊢; exact h _ _ hC hh
  | some o =>
    simp only [ho] at hh ⊢
    split
    · rename_i hg
      rw [if_pos hg] at hh
      exact wpIn_of_quiet hC h hh
    · rename_i hg
      rw [if_neg hg] at hh
      exact ⟨fun _ _ => trivial, h _ _ hC hh⟩
theorem wpAnyIn_of_quiet' {md : Region.Mode} {Q : Act → Prop} {Q' : Exit → Act → World → Prop} (hQ : ∀ a w, C w → Q a → Q' .normal a w) : ∀ (fuel : Nat) (listed : Array Bool) (a : Act) (w : World), C w →
    wpAnyQ P md ops C Q fuel listed a → wpAnyIn (FW ro) n P md ops Q' fuel listed a w
  | 0, _, _, _, hw, h => ⟨h.1, hQ _ _ hw h.2⟩
  | fuel + 1, _, _, _, hw, h => ⟨fun h0 => hQ _ _ hw (h.1 h0), fun i hi => wpOpIn_of_qOp hw (fun a' w' hw' => wpAnyIn_of_quiet' hQ fuel _ a' w' hw') (h.2 i hi)⟩
end
theorem cls_below {P : Program} {ops : Array Oper} {Q : Exit → Act → World → Prop} {l : List Oper} {a : Act} {W : World}
    (h : wpQuiet P ops (Cls W.heap.size W) (fun a' => ∀ w', Below W.heap.size W w' → Q .normal a' w') l a) : wpQuiet P ops (Cls W.heap.size W) (fun a' => ∀ w', Cls W.heap.size W w' → Q .normal a' w') l a := by
  have e : (fun a' => ∀ w', Below W.heap.size W w' → Q .normal a' w') = (fun a' => ∀ w', Cls W.heap.size W w' → Q .normal a' w') := by
    funext a'
    exact propext ⟨fun h w' ⟨u, hu⟩ => by rw [hu]; exact h _ u.2, fun h w' hw => h w' ⟨⟨w', hw⟩, rfl⟩⟩
  rw [e] at h
  exact h
/-- list_at, in a round. -/
theorem list_atI (d : Nat) {r n : Nat} {P : Program} {ops : Array Oper} {Q : Exit → Act → World → Prop} {l : List Oper} {o : Oper} {a : Act} {w : World} (_ : o.dst = some d)
    (h : ∀ W, w = W → wpQuiet P ops (Cls W.heap.size W) (fun a' => ∀ w', Below W.heap.size W w' → Q .normal a' w') (o :: l) a) : wpListIn (Fence.wide.inRound r) n P ops Q (o :: l) a w :=
  wpListIn_of_quiet (ro := some r) (C := Cls w.heap.size w) _ a w ⟨⟨w, Below.refl _ _⟩, rfl⟩ (cls_below (h w rfl))
/-- region_at, in a round. -/
theorem region_atI {id r n : Nat} {P : Program} {Q : Exit → Act → World → Prop} {a : Act} {w : World} {l : List Oper} (hm : P.follows .mixedOrders = true) (hB : Region.lexB .any l.toArray = true)
    (h : ∀ W, w = W → wpQuiet P l.toArray (Cls W.heap.size W) (fun a' => ∀ w', Below W.heap.size W w' → Q .normal a' w') l a) : (Code.region id l.toArray true).wpIn (Fence.wide.inRound r) n P Q a w := by
  have h := cls_below (h w rfl)
  simp only [Region.lexB, Bool.and_eq_true] at hB
  refine wpIn_region_any hm (wpAnyIn_of_quiet' (ro := some r) (C := Cls w.heap.size w) (Q := fun a' => ∀ w', Cls w.heap.size w w' → Q .normal a' w') (fun _ w' hw' h => h w' hw') _ _ _ _ (cls_drew _ _) ?_)
  have := wpAnyQ_lex (P := P) (C := Cls w.heap.size w) (md := .any) hB.1 l 0 (Array.replicate l.toArray.size false) a (by simp) (by simpa using hB.2) h
  simpa using this
end Go.Proofs.Ytfhfiaphdgfmnaa
