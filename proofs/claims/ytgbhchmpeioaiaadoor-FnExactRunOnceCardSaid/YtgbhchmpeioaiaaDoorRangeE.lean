import Derived.RangeFuncLeaves
import Derived.RangeFuncNested
import Derived.Test.YtgbhchmpeioaiaaDoorG1
namespace Go.Proofs.YtgbhchmpeioaiaaDoor
open Go.RowKit
set_option maxRecDepth 100000
set_option linter.unusedVariables false
set_option linter.unusedSimpArgs false
/-- how the body of a round may be left, where the rounds change a block that lies below -/
def effPost (B : Nat) (I : World → Prop) (Ix : Code → World → Prop) (W : World) : Exit → Act → World → Prop
  | .normal, _, W' => KeepsFrom B W W' ∧ I W'
  | .exit id, _, W' => KeepsFrom B W W' ∧ Ix (.exit id) W'
  | _, _, _ => False
/-- what an iterator must keep to whose rounds take steps of their own -/
def SeqE (P : Program) (gf : Nat) (lb : Array Value) (V : Nat → Value) (I Y : Nat → World → Prop) (B : Nat) (Done : Nat → Prop) : Prop :=
  ∀ (l : Nat) (Bk X : World → Prop) (W : World), B ≤ l →
    (∀ W1 W2 (row : Option Nat), Bk W1 → W1.grownBy W2 row → (∀ r, row = some r → r < B) → Bk W2) →
    (∀ k W1, Y k W1 → Bk W1 → YieldAt Fence.wide 7 P l #[V k] W1 fun e W2 => (e = .returned (.bool true) ∧ I (k + 1) W2 ∧ Bk W2) ∨ (e = .returned (.bool false) ∧ X W2)) →
    I 0 W → Bk W →
    CallsIn Fence.wide 8 P gf (#[.func (.yield l) #[] #[]] ++ lb) W fun e W2 => (∃ v, e = .returned v) ∧ ((∃ k, Done k ∧ I k W2 ∧ Bk W2) ∨ X W2)
theorem wp_rangeE {P : Program} {g : Operand} {p : Tmp} {assign body : Code} {Q : Exit → Act → World → Prop} {a : Act} {w : World} {gf : Nat} {lb : Array Value}
    (hg : a.eval g = .func (.func gf) #[] lb) (eg : ∀ args w, (callFunc gf args).run P w = .ok (.enter gf args) w)
    {V : Nat → Value} {I Y : Nat → World → Prop} {Done : Nat → Prop} (ax : Nat → Act) (hseq : SeqE P gf lb V I Y w.heap.size Done)
    (Ix : Code → World → Prop) (hI : OwnFrom w.heap.size I) (hY : OwnFrom w.heap.size Y) (hIx : OwnFrom w.heap.size Ix) (h0 : I 0 w)
    (hassign : ∀ (l k : Nat) (W : World) (K : Act → World → Prop), K (ax k) W →
      assign.wpIn (Fence.wide.inRound l) 7 P (Exit.then K (fun _ _ _ => False)) { tmps := a.tmps.setIfInBounds p (V k), defers := [] } W)
    (hbody : ∀ (l k : Nat) (W : World), w.heap.size ≤ W.heap.size → Y k W → body.wpIn (Fence.wide.inRound l) 7 P (effPost w.heap.size (I (k + 1)) Ix W) (ax k) W)
    (hdone : ∀ (D k : Nat) (W : World), w.heap.size ≤ D → Done k → I k W → W.heap[D]? = some (.deferred (some [])) → Q .normal { a with defers := { target := .collected D, args := #[] } :: a.defers } W)
    (hstop : ∀ (D : Nat) (c : Code) (W : World), w.heap.size ≤ D → Ix c W → W.heap[D]? = some (.deferred (some [])) → c.wp P Q { a with defers := { target := .collected D, args := #[] } :: a.defers } W) :
    (Code.rangeFunc g #[p] assign body).wp P Q a w := by
  refine (wpIn_wide (n := 9)).1 (wpIn_rangeFunc fun fn hfn => ?_)
  obtain ⟨N, hN⟩ : ∃ N, N = w.heap.size := ⟨_, rfl⟩
  rw [← hN] at hseq hI hY hIx hbody hdone hstop
  obtain ⟨rec, hrec⟩ : ∃ rec : LoopState → Option Code → Loop, rec = fun st pe => ⟨st, pe, fn, a.tmps, #[p], assign, body, N⟩ := ⟨_, rfl⟩
  let Bk : World → Prop := fun W => W.heap[N + 1]? = some (.loop (rec .ready none)) ∧ W.heap[N]? = some (.deferred (some []))
  let X : World → Prop := fun W => ∃ c, Ix c W ∧ W.heap[N + 1]? = some (.loop (rec .done (some c))) ∧ W.heap[N]? = some (.deferred (some []))
  have keepB : ∀ W1 W2 (row : Option Nat), Bk W1 → W1.grownBy W2 row → (∀ r, row = some r → r < N) → Bk W2 := fun W1 W2 row h hgr hr =>
    ⟨(hgr.block _ (row_lt h.1) (fun e => by have := hr _ e.symm; omega)).trans h.1, (hgr.block _ (row_lt h.2) (fun e => by have := hr _ e.symm; omega)).trans h.2⟩
  obtain ⟨W0, hW0⟩ : ∃ W0, W0 = (w.alloc (.deferred (some []))).alloc (.loop (rec .ready none)) := ⟨_, rfl⟩
  have start : I 0 W0 ∧ Bk W0 := by
    rw [hW0]
    refine ⟨hI.alloc _ (hI.alloc _ h0), ?_, ?_⟩
    · have := World.alloc_heap_new (w.alloc (.deferred (some []))) (.loop (rec .ready none))
      rwa [World.size_alloc, ← hN] at this
    · rw [hN]
      exact (Below.heap_alloc _ _ _ (by simp)).trans (World.alloc_heap_new w _)
  refine ⟨N + 1, [{ target := .collected N, args := #[] }], W0, { target := .fn (.func gf) lb, args := #[.func (.yield (N + 1)) #[] #[]] }, W0, gf, #[.func (.yield (N + 1)) #[] #[]] ++ lb, W0, ?_, ?_, ?_, ?_, fun _ => by omega, ?_⟩
  · rw [hW0, hrec, hN]; exact run_enterLoop_outer _ _ _ _ _
  · simp only [resolve, hg]
    simp [go_sem]
  · intro f' hf'; simp [Target.leads] at hf'; subst hf'; trivial
  · simp [invoke, go_sem, eg]
  · refine (hseq (N + 1) Bk X _ (by omega) keepB ?_ start.1 start.2).mono ?_
    · rintro k W1 hy ⟨hl, hk⟩
      have hyl := run_yield (P := P) (args := #[V k]) hl (by rw [hrec]; rfl)
      rw [hrec] at hyl
      refine ⟨fn, _, assign, body, hyl, roundIn_of_wpIn hfn ?_⟩
      have e : ((#[p].zip #[V k]).foldl (fun t (q, v) => t.setIfInBounds q v) a.tmps) = a.tmps.setIfInBounds p (V k) := by simp
      simp only [e]
      refine hassign _ k W1 _ ?_
      have hlt : N + 1 < W1.heap.size := row_lt hl
      refine ⟨_, run_beginRound hl (by rw [hrec]), ?_⟩
      have hl2 : (W1.putObj (N + 1) (.loop { rec .ready none with state := .busy })).heap[N + 1]? = some (.loop { rec .ready none with state := .busy }) := World.putObj_heap_same hlt
      have hk2 : (W1.putObj (N + 1) (.loop { rec .ready none with state := .busy })).heap[N]? = some (.deferred (some [])) := (World.putObj_heap_other (by omega)).trans hk
      refine wpIn_mono (hbody _ k _ (by simp; omega) (hY.putObj _ hy (by omega) hl rfl)) ?_
      rintro e a3 W3 hp
      cases e with
      | normal =>
        have h3 := hp.1.same _ _ (by omega) hl2 rfl
        have hr := run_endRound (P := P) none h3
        refine ⟨_, _, hr, .inl ⟨rfl, hI.putObj _ hp.2 (by omega) h3 rfl, ?_, (World.putObj_heap_other (by omega)).trans (hp.1.same _ _ (Nat.le_refl _) hk2 rfl)⟩⟩
        rw [hrec]; exact World.putObj_heap_same (row_lt h3)
      | exit id =>
        have h3 := hp.1.same _ _ (by omega) hl2 rfl
        have hr := run_endRound (P := P) (some (.exit id)) h3
        refine ⟨_, _, hr, .inr ⟨rfl, .exit id, hIx.putObj _ hp.2 (by omega) h3 rfl, ?_, (World.putObj_heap_other (by omega)).trans (hp.1.same _ _ (Nat.le_refl _) hk2 rfl)⟩⟩
        rw [hrec]; exact World.putObj_heap_same (row_lt h3)
      | ret => exact hp.elim
      | goto t => exact hp.elim
      | panic ch => exact hp.elim
      | outgrown => exact hp.elim
    · rintro e W2 ⟨⟨v, rfl⟩, (⟨k, hD, hi, hl, hk⟩ | ⟨c, hi, hl, hk⟩)⟩
      · have hend := run_endLoop (P := P) hl (by rw [hrec]; simp)
        rw [hrec] at hend
        exact ⟨none, _, hend, hdone _ k _ (by omega) hD (hI.putObj _ hi (by omega) hl rfl) ((World.putObj_heap_other (by omega)).trans hk)⟩
      · have hend := run_endLoop (P := P) hl (by rw [hrec]; simp)
        rw [hrec] at hend
        exact ⟨some c, _, hend, (wpIn_wide (n := 9)).2 (hstop _ c _ (by omega) (hIx.putObj _ hi (by omega) hl rfl) ((World.putObj_heap_other (by omega)).trans hk))⟩
end Go.Proofs.YtgbhchmpeioaiaaDoor
