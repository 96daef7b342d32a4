import Derived.StillTail
import Derived.Deep.RegionHeld3
import Derived.Test.YtmcpaangofdmpaaDoorG1
import Derived.Test.YtmcpaangofdmpaaDoorQT
namespace Go.Proofs.YtmcpaangofdmpaaDoor
open Go.RowKit
set_option maxRecDepth 100000
set_option linter.unusedVariables false
set_option linter.unusedSimpArgs false
section
variable {P : Program} {ops : Array Oper} {md : Region.Mode} {C : World → Prop}
/-- every operation behind n waits for one that is n or stands between n and itself -/
def treeB (md : Region.Mode) (ops : Array Oper) (n : Nat) : Bool :=
  (List.range ops.size).all fun t => decide (t ≤ n) || (List.range t).any fun s => decide (n ≤ s) && Region.waitsFor md ops t s
theorem tail_waitsT {n : Nat} {listed : Array Bool} (hs : Region.sinkB md ops n = true) (hc : treeB md ops n = true) (hn : n < ops.size) (inv : HeadInv md ops n listed) :
    ∀ (d i : Nat), n - i = d → i < n → listed.getD i true = false → ∀ t, n ≤ t → t ∉ Region.ready md ops listed := by
  intro d
  induction d using Nat.strongRecOn with
  | _ d ih =>
    intro i hd hi hun t ht hr
    obtain ⟨_, ot, hot, hall⟩ := mem_ready.1 hr
    have htlt : t < ops.size := (Array.getElem?_eq_some_iff.1 hot).1
    by_cases htn : t = n
    · subst htn
      have h1 := List.all_eq_true.1 hs i (List.mem_range.2 hi)
      obtain ⟨j, hj, hj2⟩ := List.any_eq_true.1 h1
      simp only [Bool.and_eq_true, decide_eq_true_eq] at hj2
      obtain ⟨oj, hoj, e, he, hb, hon⟩ := Region.waitsFor_spec hj2.2
      have hjle : j ≤ t := by have := List.mem_range.1 hj; omega
      by_cases hjt : j = t
      · subst hjt
        have : oj = ot := Option.some.inj (hoj.symm.trans hot)
        subst this
        have h2 := hall e he hb
        rw [hon, getD_both hun] at h2
        cases h2
      · cases hl : listed.getD j false with
        | true =>
          have h2 := inv.closed j oj hoj hl e he hb
          rw [hon, getD_both hun] at h2
          cases h2
        | false =>
          have hjs : j < listed.size := by rw [inv.size]; omega
          exact ih (t - j) (by omega) j rfl (by omega) (getD_in hjs hl) t (Nat.le_refl _) hr
    · have h1 := List.all_eq_true.1 hc t (List.mem_range.2 htlt)
      simp only [Bool.or_eq_true, decide_eq_true_eq] at h1
      rcases h1 with h1 | h1
      · omega
      · obtain ⟨s, hsr, hs2⟩ := List.any_eq_true.1 h1
        simp only [Bool.and_eq_true, decide_eq_true_eq] at hs2
        have hst := List.mem_range.1 hsr
        obtain ⟨o', ho', e, he, hb, hon⟩ := Region.waitsFor_spec hs2.2
        have : o' = ot := Option.some.inj (ho'.symm.trans hot)
        subst this
        have h2 := hall e he hb
        rw [hon, getD_both (inv.tail s hs2.1 (by omega))] at h2
        cases h2
theorem headQ_takeT {n i : Nat} {oi : Oper} {v : Value} {L : Array Bool → Act → Prop} (hi : ops[i]? = some oi) (hsel : ∀ (j : Nat) (o : Oper) cs b, ops[j]? = some o → o.op ≠ .select cs b)
    (hs : Region.sinkB md ops n = true) (hc : treeB md ops n = true) (hn : n < ops.size) (hin : i < n) (hdone : ∀ listed a, L listed a → ∀ j ∈ Region.ready md ops listed, n ≤ j) :
    ∀ (f : Nat) (listed : Array Bool) (a : Act), HeadInv md ops n listed →
      (∀ j oj, ops[j]? = some oj → j ≠ i → listed.getD j true = false → (∀ e ∈ oj.after, Region.binds md e = true → e.on ≠ i) → oi.apart ops oj = true) →
      i ∈ Region.ready md ops listed → YieldsIn P ops C oi v a → headQ P md ops C n L f (listed.setIfInBounds i true) (a.put oi.dst v) → headQ P md ops C n L (f + 1) listed a
  | f, listed, a, inv, hfree, hr, hy, H => by
    have hun := (mem_ready.1 hr).1
    refine ⟨fun h => (by rw [h] at hr; cases hr), fun j hj => ?_⟩
    have hjn : j < n := by
      by_cases h : j < n
      · exact h
      · exact absurd hj (tail_waitsT hs hc hn inv _ i rfl hin hun j (by omega))
    refine ⟨hjn, ?_⟩
    by_cases hji : j = i
    · rw [hji]; exact hy.qOp hi H
    · cases f with
      | zero =>
        have := hdone _ _ H j (ready_mono hj hji)
        omega
      | succ f =>
        obtain ⟨hjun, oj, hoj, hall⟩ := mem_ready.1 hj
        have hnot : ∀ e ∈ oj.after, Region.binds md e = true → e.on ≠ i := fun e he hb heq => by
          have h1 := hall e he hb
          rw [heq, getD_both hun] at h1
          cases h1
        have h2 := qOp_put hoj (hfree j oj hoj hji hjun hnot) (fun cs b => hsel i oi cs b hi) (fun cs b => hsel j oj cs b hoj) hy (H.2 j (ready_mono hj hji)).2
        refine qOp_mono (fun a' h3 => headQ_takeT hi hsel hs hc hn hin hdone f (listed.setIfInBounds j true) a' (inv.set hj hjn) (fun k ok hk hki hu hno => hfree k ok hk hki ?_ hno) (ready_mono hr (Ne.symm hji)) h3.1 ?_) h2
        · by_cases hjk : j = k
          · rw [← hjk]; exact hjun
          · rwa [getD_set_ne true hjk] at hu
        · rw [Array.setIfInBounds_comm _ _ hji]
          exact h3.2
/-- n operations in the text's order, then B -/
def lexHeadG (md : Region.Mode) (ops : Array Oper) (B : Array Bool → Bool) : Nat → Nat → Array Bool → Bool
  | 0, _, listed => B listed
  | f + 1, k, listed => (Region.ready md ops listed).contains k && Region.free md ops listed k && lexHeadG md ops B f (k + 1) (listed.setIfInBounds k true)
theorem headQ_lexG {n : Nat} {B : Array Bool → Bool} {M : Act → Prop} (hsel : Region.noSelect ops = true) (hs : Region.sinkB md ops n = true) (hc : treeB md ops n = true) (hn : n < ops.size) (hBr : ∀ listed, B listed = true → ∀ j ∈ Region.ready md ops listed, n ≤ j) :
    ∀ (l : List Oper) (k : Nat) (listed : Array Bool) (a : Act), k + l.length = n → (∀ j, j < l.length → l[j]? = ops[k + j]?) → HeadInv md ops n listed →
      lexHeadG md ops B l.length k listed = true → wpQuiet P ops C M l a → headQ P md ops C n (fun listed' a' => B listed' = true ∧ M a') l.length listed a
  | [], k, listed, a, hk, _, _, hB, h => ⟨hB, h⟩
  | o :: l, k, listed, a, hk, hl, inv, hB, h => by
    have h0 : ops[k]? = some o := by simpa using (hl 0 (by simp)).symm
    simp only [List.length_cons] at hk
    simp only [List.length_cons, lexHeadG, Bool.and_eq_true] at hB
    obtain ⟨⟨hr, hf⟩, hB'⟩ := hB
    have hr' : k ∈ Region.ready md ops listed := by simpa using hr
    have hst : qOp P ops C k (wpQuiet P ops C M l) a := by unfold qOp; simp only [h0]; exact h
    obtain ⟨v, hy, hK⟩ := yieldsIn_of_qOp h0 hst
    refine headQ_takeT h0 (Region.noSelect_spec hsel) hs hc hn (by omega) (fun _ _ hL => hBr _ hL.1) l.length listed a inv (Region.free_spec h0 hf) hr' hy ?_
    refine headQ_lexG hsel hs hc hn hBr l (k + 1) _ _ (by omega) (fun j hj => ?_) (inv.set hr' (by omega)) hB' hK
    have := hl (j + 1) (by simp; omega)
    simpa [Nat.add_assoc, Nat.add_comm 1 j] using this
/-- alone ready: n; behind it, the rest in the text's order -/
def aloneB (md : Region.Mode) (ops : Array Oper) (n : Nat) (listed : Array Bool) : Bool :=
  decide (Region.ready md ops listed = [n]) && Region.lexFrom md ops (ops.size - (n + 1)) (n + 1) (listed.setIfInBounds n true)
def qcB (md : Region.Mode) (ops : Array Oper) (n : Nat) : Bool :=
  Region.noSelect ops && decide (n < ops.size) && Region.sinkB md ops n && treeB md ops n && lexHeadG md ops (aloneB md ops n) n 0 (Array.replicate ops.size false)
theorem wpAny_qc {Q : Exit → Act → World → Prop} (n : Nat) (hB : qcB md ops n = true) {a : Act} {w : World} (hw : C w)
    (h : wpQuiet P ops C (fun a' => ∀ w', C w' → wpOp P ops Q n (fun a2 w2 => wpStill P ops w2 (fun a3 => Q .normal a3 w2) (ops.toList.drop (n + 1)) a2) a' w') (ops.toList.take n) a) : wpAny P md ops Q ops.size (Array.replicate ops.size false) a w := by
  simp only [qcB, Bool.and_eq_true, decide_eq_true_eq] at hB
  obtain ⟨⟨⟨⟨hsel, hn⟩, hs⟩, hc⟩, hB⟩ := hB
  have hlen : (ops.toList.take n).length = n := by simp; omega
  have e : ops.size = n + ((ops.size - (n + 1)) + 1) := by omega
  have h1 := headQ_lexG (C := C) (P := P) (B := aloneB md ops n) hsel hs hc hn (fun listed hb j hj => by
      simp only [aloneB, Bool.and_eq_true, decide_eq_true_eq] at hb
      rw [hb.1] at hj; simp at hj; omega) (ops.toList.take n) 0 (Array.replicate ops.size false) a (by omega)
    (fun j hj => by rw [hlen] at hj; simp [List.getElem?_take, hj]) (headInv_none n) (by rw [hlen]; exact hB) h
  rw [hlen] at h1
  have hd : (ops.toList.drop (n + 1)).length = ops.size - (n + 1) := by simp
  have h2 := wpAny_of_headQ (g := (ops.size - (n + 1)) + 1) (Q' := Q)
    (fun listed' a' w' hw' (hL : aloneB md ops n listed' = true ∧ ∀ w', C w' → _) => by
      obtain ⟨hb, hM⟩ := hL
      simp only [aloneB, Bool.and_eq_true, decide_eq_true_eq] at hb
      refine ⟨fun h0 => (by rw [hb.1] at h0; cases h0), fun i hi => ?_⟩
      rw [hb.1] at hi
      have hin : i = n := by simpa using hi
      subst hin
      refine wpOp_mono (fun a2 w2 hS => ?_) (hM w' hw')
      have h3 := wpAnyS_lex (P := P) (w := w2) (md := md) hsel (ops.toList.drop (i + 1)) (i + 1) (listed'.setIfInBounds i true) a2 (fun j => by simp) (by rw [hd]; exact hb.2) hS
      have h4 := wpAny_of_still (Q' := Q) (fun a hq => hq) _ _ _ h3
      rwa [hd] at h4) n _ a w hw h1
  rw [← e] at h2
  exact h2
end
/-- A DRAWN REGION: a head of quiet operations, one call, and what is done with its answer. -/
theorem region_qc {P : Program} {id : Nat} {Q : Exit → Act → World → Prop} {a : Act} {w : World} {l : List Oper} (n : Nat) (hm : P.follows .mixedOrders = true) (hB : qcB .any l.toArray n = true)
    (h : ∀ W, w = W → wpQuiet P l.toArray (Cls W.heap.size W) (fun a' => ∀ w', Below W.heap.size W w' → wpOp P l.toArray Q n (fun a2 w2 => wpStill P l.toArray w2 (fun a3 => Q .normal a3 w2) (l.drop (n + 1)) a2) a' w') (l.take n) a) : (Code.region id l.toArray true).wp P Q a w := by
  refine wp_region_any hm (wpAny_qc (C := Cls w.heap.size w) n hB (cls_drew _ _) ?_)
  have h1 := h w rfl
  have e : (fun a' => ∀ w', Below w.heap.size w w' → wpOp P l.toArray Q n (fun a2 w2 => wpStill P l.toArray w2 (fun a3 => Q .normal a3 w2) (l.drop (n + 1)) a2) a' w') = (fun a' => ∀ w', Cls w.heap.size w w' → wpOp P l.toArray Q n (fun a2 w2 => wpStill P l.toArray w2 (fun a3 => Q .normal a3 w2) (l.drop (n + 1)) a2) a' w') := by
    funext a'
    exact propext ⟨fun h w' ⟨u, hu⟩ => by rw [hu]; exact h _ u.2, fun h w' hw => h w' ⟨⟨w', hw⟩, rfl⟩⟩
  rw [e] at h1
  simpa using h1
theorem wpOp_callV {P : Program} {ops : Array Oper} {Q : Exit → Act → World → Prop} {n : Nat} {o : Oper} {a : Act} {w : World} {K : Act → World → Prop} {R : Value → World → Prop} {f : FuncId} {xs : Array Value} (ho : ops[n]? = some o) (hw : Region.wanted o (yielded ops a.tmps) = true)
    (hc : Calls P f xs w fun e w' => ∃ v, e = .returned v ∧ R v w') (hrun : (execOp a.eval o).run P w = .ok (.enter f xs) w)
    (h : ∀ v w', R v w' → K (a.put o.dst v) w') : wpOp P ops Q n K a w := by
  unfold wpOp
  simp only [ho]
  rw [if_pos hw]
  refine .inl ?_
  unfold Oper.wp
  rw [hrun]
  refine hc.mono ?_
  rintro e w' ⟨v, rfl, hR⟩
  exact h v w' hR
end Go.Proofs.YtmcpaangofdmpaaDoor
