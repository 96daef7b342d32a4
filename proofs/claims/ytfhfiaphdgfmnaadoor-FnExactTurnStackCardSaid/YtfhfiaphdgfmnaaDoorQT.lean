import Derived.StillTail
import Derived.Deep.RegionHeld3
import Derived.Test.YtfhfiaphdgfmnaaDoorG1
namespace Go.Proofs.YtfhfiaphdgfmnaaDoor
open Go.RowKit
set_option maxRecDepth 100000
set_option linter.unusedVariables false
set_option linter.unusedSimpArgs false
section
variable {P : Program} {ops : Array Oper} {md : Region.Mode} {C : World → Prop}
/-- A HEAD OF QUIET OPERATIONS (in a class of worlds), THEN L: whichever order is picked. -/
def headQ (P : Program) (md : Region.Mode) (ops : Array Oper) (C : World → Prop) (n : Nat) (L : Array Bool → Act → Prop) : Nat → Array Bool → Act → Prop
  | 0, listed, a => L listed a
  | f + 1, listed, a => Region.ready md ops listed ≠ [] ∧ ∀ i ∈ Region.ready md ops listed, i < n ∧ qOp P ops C i (headQ P md ops C n L f (listed.setIfInBounds i true)) a
theorem wpAny_of_headQ {n g : Nat} {L : Array Bool → Act → Prop} {Q' : Exit → Act → World → Prop} (hL : ∀ listed a w, C w → L listed a → wpAny P md ops Q' g listed a w) :
    ∀ (f : Nat) (listed : Array Bool) (a : Act) (w : World), C w → headQ P md ops C n L f listed a → wpAny P md ops Q' (f + g) listed a w
  | 0, _, _, _, hw, h => by rw [Nat.zero_add]; exact hL _ _ _ hw h
  | f + 1, _, _, _, hw, h => by
    have e : f + 1 + g = (f + g) + 1 := by omega
    rw [e]
    exact ⟨fun h0 => absurd h0 h.1, fun i hi => wpOp_of_qOp hw (fun a' w' hw' h' => wpAny_of_headQ hL f _ a' w' hw' h') (h.2 i hi).2⟩
theorem headQ_take {n i : Nat} {oi : Oper} {v : Value} {L : Array Bool → Act → Prop} (hi : ops[i]? = some oi) (hsel : ∀ (j : Nat) (o : Oper) cs b, ops[j]? = some o → o.op ≠ .select cs b)
    (hs : Region.sinkB md ops n = true) (hc : Region.chainB md ops n = true) (hn : n < ops.size) (hin : i < n) (hdone : ∀ listed a, L listed a → ∀ j ∈ Region.ready md ops listed, n ≤ j) :
    ∀ (f : Nat) (listed : Array Bool) (a : Act), HeadInv md ops n listed →
      (∀ j oj, ops[j]? = some oj → j ≠ i → listed.getD j true = false → (∀ e ∈ oj.after, Region.binds md e = true → e.on ≠ i) → oi.apart ops oj = true) →
      i ∈ Region.ready md ops listed → YieldsIn P ops C oi v a → headQ P md ops C n L f (listed.setIfInBounds i true) (a.put oi.dst v) → headQ P md ops C n L (f + 1) listed a
  | f, listed, a, inv, hfree, hr, hy, H => by
    have hun := (mem_ready.1 hr).1
    refine ⟨fun h => (by rw [h] at hr; cases hr), fun j hj => ?_⟩
    have hjn : j < n := by
      by_cases h : j < n
      · exact h
      · exact absurd hj (tail_waits hs hc hn inv _ i rfl hin hun j (by omega))
    refine ⟨hjn, ?_⟩
    by_cases hji : j = i
    · rw [hji]; exact hy.qOp hi H
    · cases f with
      | zero =>
        have := hdone _ _ H j (ready_mono hj hji)
        omega
      | succ f =>
        obtain ⟨hjun, oj, hoj, hall⟩ := mem_ready.1 hj
        have hnot : ∀ e ∈ oj.after, Region.binds md e = true → e.on ≠ i := fun e he hb heq => by
          have h1 := hall e he hb
          rw [heq, getD_both hun] at h1
          cases h1
        have h2 := qOp_put hoj (hfree j oj hoj hji hjun hnot) (fun cs b => hsel i oi cs b hi) (fun cs b => hsel j oj cs b hoj) hy (H.2 j (ready_mono hj hji)).2
        refine qOp_mono (fun a' h3 => headQ_take hi hsel hs hc hn hin hdone f (listed.setIfInBounds j true) a' (inv.set hj hjn) (fun k ok hk hki hu hno => hfree k ok hk hki ?_ hno) (ready_mono hr (Ne.symm hji)) h3.1 ?_) h2
        · by_cases hjk : j = k
          · rw [← hjk]; exact hjun
          · rwa [getD_set_ne true hjk] at hu
        · rw [Array.setIfInBounds_comm _ _ hji]
          exact h3.2
theorem headQ_lex {n g : Nat} {M : Act → Prop} (hsel : Region.noSelect ops = true) (hs : Region.sinkB md ops n = true) (hc : Region.chainB md ops n = true) (hn : n < ops.size) :
    ∀ (l : List Oper) (k : Nat) (listed : Array Bool) (a : Act), k + l.length = n → (∀ j, j < l.length → l[j]? = ops[k + j]?) → HeadInv md ops n listed →
      Region.lexHead md ops g l.length k listed = true → wpQuiet P ops C M l a → headQ P md ops C n (fun listed' a' => Region.seqB md ops g n listed' = true ∧ M a') l.length listed a
  | [], k, listed, a, hk, _, _, hB, h => by
    have e : k = n := by simpa using hk
    rw [e] at hB
    exact ⟨hB, h⟩
  | o :: l, k, listed, a, hk, hl, inv, hB, h => by
    have h0 : ops[k]? = some o := by simpa using (hl 0 (by simp)).symm
    simp only [List.length_cons] at hk
    simp only [List.length_cons, Region.lexHead, Bool.and_eq_true] at hB
    obtain ⟨⟨hr, hf⟩, hB'⟩ := hB
    have hr' : k ∈ Region.ready md ops listed := by simpa using hr
    have hst : qOp P ops C k (wpQuiet P ops C M l) a := by unfold qOp; simp only [h0]; exact h
    obtain ⟨v, hy, hK⟩ := yieldsIn_of_qOp h0 hst
    refine headQ_take h0 (Region.noSelect_spec hsel) hs hc hn (by omega) (fun _ _ hL => seqB_ready hL.1) l.length listed a inv (Region.free_spec h0 hf) hr' hy ?_
    refine headQ_lex hsel hs hc hn l (k + 1) _ _ (by omega) (fun j hj => ?_) (inv.set hr' (by omega)) hB' hK
    have := hl (j + 1) (by simp; omega)
    simpa [Nat.add_assoc, Nat.add_comm 1 j] using this
theorem headInv_none (n : Nat) : HeadInv md ops n (Array.replicate ops.size false) := by
  refine ⟨by simp, fun j _ _ hl => ?_, fun t _ ht => by simp [ht]⟩
  rw [getD_replicate_false] at hl
  cases hl
/-- READS AND CALLS IN A CLASS OF WORLDS, THEN A TAIL THAT STANDS IN A CHAIN. -/
theorem wpAny_quiet_tail {Q : Exit → Act → World → Prop} (n : Nat) (hB : Region.lexTailB md ops n = true) {a : Act} {w : World} (hw : C w)
    (h : wpQuiet P ops C (fun a' => ∀ w', C w' → wpList P ops Q (ops.toList.drop n) a' w') (ops.toList.take n) a) : wpAny P md ops Q ops.size (Array.replicate ops.size false) a w := by
  simp only [Region.lexTailB, Bool.and_eq_true, decide_eq_true_eq] at hB
  obtain ⟨⟨⟨⟨hsel, hn⟩, hs⟩, hc⟩, hB⟩ := hB
  have hlen : (ops.toList.take n).length = n := by simp; omega
  have e : ops.size = n + (ops.size - n) := by omega
  have h1 := headQ_lex (C := C) (P := P) (g := ops.size - n) (M := fun a' => ∀ w', C w' → wpList P ops Q (ops.toList.drop n) a' w') hsel hs hc hn (ops.toList.take n) 0 (Array.replicate ops.size false) a (by omega)
    (fun j hj => by rw [hlen] at hj; simp [List.getElem?_take, hj]) (headInv_none n) (by rw [hlen]; exact hB) h
  rw [hlen] at h1
  have hd : (ops.toList.drop n).length = ops.size - n := by simp
  have h2 := wpAny_of_headQ (g := ops.size - n) (Q' := Q) (L := fun listed' a' => Region.seqB md ops (ops.size - n) n listed' = true ∧ ∀ w', C w' → wpList P ops Q (ops.toList.drop n) a' w')
    (fun listed' a' w' hw' hL => by
      have h3 := wpAny_of_seq (P := P) (Q' := Q) (md := md) (ops := ops) (ops.toList.drop n) n listed' a' w' (fun j => by simp) (by rw [hd]; exact hL.1) (hL.2 w' hw')
      rwa [hd] at h3) n _ a w hw h1
  rw [← e] at h2
  exact h2
end
theorem region_qt {P : Program} {id : Nat} {Q : Exit → Act → World → Prop} {a : Act} {w : World} {l : List Oper} (n : Nat) (hm : P.follows .mixedOrders = true) (hB : Region.lexTailB .any l.toArray n = true)
    (h : ∀ W, w = W → wpQuiet P l.toArray (Cls W.heap.size W) (fun a' => ∀ w', Below W.heap.size W w' → wpList P l.toArray Q (l.drop n) a' w') (l.take n) a) : (Code.region id l.toArray true).wp P Q a w := by
  refine wp_region_any hm (wpAny_quiet_tail (C := Cls w.heap.size w) n hB (cls_drew _ _) ?_)
  have h1 := h w rfl
  have e : (fun a' => ∀ w', Below w.heap.size w w' → wpList P l.toArray Q (l.drop n) a' w') = (fun a' => ∀ w', Cls w.heap.size w w' → wpList P l.toArray Q (l.drop n) a' w') := by
    funext a'
    exact propext ⟨fun h w' ⟨u, hu⟩ => by rw [hu]; exact h _ u.2, fun h w' hw => h w' ⟨⟨w', hw⟩, rfl⟩⟩
  rw [e] at h1
  simpa using h1
/-- the goal is this region -/
theorem regAt (id : Nat) {P : Program} {Q : Exit → Act → World → Prop} {a : Act} {w : World} {ops : Array Oper} (h : (Code.region id ops true).wp P Q a w) : (Code.region id ops true).wp P Q a w := h
section
variable {ro : Option Nat} {n : Nat} {P : Program} {ops : Array Oper} {Q : Exit → Act → World → Prop} {md : Region.Mode}
theorem rowsFWT {m : Nat} {row : String} {args : Array Value} {w : World} {R : Value → World → Prop} (h : Rows P row args w R) : RowsIn (FW ro) m P row args w R :=
  fun c cs _ => let ⟨v, w', r, s⟩ := h c cs; ⟨v, w', r, stepsIn_wide.2 s⟩
theorem wpIn_of_wpT {o : Oper} {a : Act} {w : World} {K : Act → World → Prop} (hnd : ∀ c, o.op ≠ .defer c) (h : o.wp P a w K Q) : o.wpIn (FW ro) n P a w K Q := by
  refine ⟨fun _ _ => trivial, ?_⟩
  show o.uponIn (FW ro) n P a K Q ((o.semAt ro a.eval).run P w)
  rw [Oper.semAt_eq ro _ _ hnd]
  unfold Oper.wp at h
  generalize (execOp a.eval o).run P w = r at *
  cases r with
  | ok x w' =>
    cases x <;> simp only [Oper.upon] at h <;> simp only [Oper.uponIn] <;>
      first
        | exact h
        | exact ⟨fun h => by simp [Fence.wide] at h, callsFW (h.mono fun e w'' he => by cases e <;> exact he)⟩
        | exact ⟨fun h => by simp [Fence.wide] at h, rowsFWT h⟩
  | halt x w' => cases x <;> simp only [Oper.upon] at h <;> exact h
def noDeferT (ops : Array Oper) : Bool := ops.all fun o => match o.op with | .defer _ => false | _ => true
theorem noDefer_specT (h : noDeferT ops = true) (i : Nat) (o : Oper) (ho : ops[i]? = some o) (c : Call) : o.op ≠ .defer c := by
  intro hc
  simp only [noDeferT, Array.all_eq_true_iff_forall_mem] at h
  have := h o (Array.mem_of_getElem? ho)
  rw [hc] at this
  cases this
theorem wpAnyIn_of_wpAnyT (hnd : noDeferT ops = true) (hL : ¬ LetsOut Q) : ∀ (fuel : Nat) (listed : Array Bool) (a : Act) (w : World), wpAny P md ops Q fuel listed a w → wpAnyIn (FW ro) n P md ops Q fuel listed a w
  | 0, _, _, _, h => h
  | fuel + 1, listed, a, w, h => by
    refine ⟨h.1, fun i hi => ?_⟩
    have h2 := h.2 i hi
    unfold wpOp at h2
    unfold wpOpIn
    cases ho : ops[i]? with
    | none => simp only [ho] at h2 ⊢; exact wpAnyIn_of_wpAnyT hnd hL fuel _ _ _ h2
    | some o =>
      simp only [ho] at h2 ⊢
      split
      · rename_i hg
        rw [if_pos hg] at h2
        rcases h2 with h2 | ⟨_, h2⟩
        · exact Oper.wpIn_mono (fun a' w' h' => wpAnyIn_of_wpAnyT hnd hL fuel _ a' w' h') (wpIn_of_wpT (noDefer_specT hnd i o ho) h2)
        · exact absurd h2 hL
      · rename_i hg
        rw [if_neg hg] at h2
        exact ⟨fun _ _ => trivial, wpAnyIn_of_wpAnyT hnd hL fuel _ _ _ h2⟩
/-- only a plain end -/
def PlainlyT (Q : Exit → Act → World → Prop) : Exit → Act → World → Prop := fun e a w => e = .normal ∧ Q .normal a w
theorem plainly_outT : ¬ LetsOut (PlainlyT Q) := fun ⟨_, _, h, _⟩ => by cases h
end
theorem regionI_qt {P : Program} {Q : Exit → Act → World → Prop} {id r m : Nat} {l : List Oper} {a : Act} {w : World} (n : Nat) (hm : P.follows .mixedOrders = true) (hnd : noDeferT l.toArray = true) (hB : Region.lexTailB .any l.toArray n = true)
    (h : ∀ W, w = W → wpQuiet P l.toArray (Cls W.heap.size W) (fun a' => ∀ w', Below W.heap.size W w' → wpList P l.toArray (PlainlyT Q) (l.drop n) a' w') (l.take n) a) : (Code.region id l.toArray true).wpIn (Fence.wide.inRound r) m P Q a w := by
  refine wpIn_mono (wpIn_region_any hm (wpAnyIn_of_wpAnyT (ro := some r) hnd plainly_outT _ _ _ _ (wpAny_quiet_tail (Q := PlainlyT Q) (C := Cls w.heap.size w) n hB (cls_drew _ _) ?_))) ?_
  · have h1 := h w rfl
    have e : (fun a' => ∀ w', Below w.heap.size w w' → wpList P l.toArray (PlainlyT Q) (l.drop n) a' w') = (fun a' => ∀ w', Cls w.heap.size w w' → wpList P l.toArray (PlainlyT Q) (l.drop n) a' w') := by
      funext a'
      exact propext ⟨fun h w' ⟨u, hu⟩ => by rw [hu]; exact h _ u.2, fun h w' hw => h w' ⟨⟨w', hw⟩, rfl⟩⟩
    rw [e] at h1
    simpa using h1
  · rintro e a w ⟨rfl, h⟩
    exact h
theorem regionI_cls {P : Program} {Q : Exit → Act → World → Prop} {id r m : Nat} {l : List Oper} {a : Act} {w : World} (hm : P.follows .mixedOrders = true) (hB : Region.lexB .any l.toArray = true) (hnd : noDeferT l.toArray = true)
    (h : ∀ W, w = W → wpQuiet P l.toArray (Cls W.heap.size W) (fun a' => ∀ w', Below W.heap.size W w' → Q .normal a' w') l a) : (Code.region id l.toArray true).wpIn (Fence.wide.inRound r) m P Q a w := by
  simp only [Region.lexB, Bool.and_eq_true] at hB
  have h1 := h w rfl
  have e : (fun a' => ∀ w', Below w.heap.size w w' → Q .normal a' w') = (fun a' => ∀ w', Cls w.heap.size w w' → Q .normal a' w') := by
    funext a'
    exact propext ⟨fun h w' ⟨u, hu⟩ => by rw [hu]; exact h _ u.2, fun h w' hw => h w' ⟨⟨w', hw⟩, rfl⟩⟩
  rw [e] at h1
  refine wpIn_mono (wpIn_region_any hm (wpAnyIn_of_wpAnyT (ro := some r) hnd plainly_outT _ _ _ _ (wpAny_of_quiet (C := Cls w.heap.size w) (Q := fun a' => ∀ w', Cls w.heap.size w w' → Q .normal a' w') (Q' := PlainlyT Q) (fun _ w' hw' h => ⟨rfl, h w' hw'⟩) _ _ _ _ (cls_drew _ _) ?_))) ?_
  · have := wpAnyQ_lex (C := Cls w.heap.size w) (md := .any) hB.1 l 0 (Array.replicate l.length false) a (by simp) (by simpa using hB.2) h1
    simpa using this
  · rintro e a w ⟨rfl, h⟩
    exact h
end Go.Proofs.YtfhfiaphdgfmnaaDoor
