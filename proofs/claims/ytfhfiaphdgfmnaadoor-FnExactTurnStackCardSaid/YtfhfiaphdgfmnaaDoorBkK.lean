import Derived.OwnWalkIn
import Derived.RangeFuncNested
import Derived.RangeFuncLeaves
import Derived.Test.YtfhfiaphdgfmnaaDoorBkx
import Derived.Test.YtfhfiaphdgfmnaaDoorQT
import Derived.Test.YtfhfiaphdgfmnaaDoorBr
import Derived.Test.YtfhfiaphdgfmnaaDoorStS
import Derived.Test.YtfhfiaphdgfmnaaDoorMkR
namespace Go.Proofs.YtfhfiaphdgfmnaaDoor
open Go.RowKit
set_option maxRecDepth 100000
set_option linter.unusedVariables false
set_option linter.unusedSimpArgs false
theorem region_qtI {P : Program} {id r m : Nat} {Q : Exit → Act → World → Prop} {a : Act} {w : World} {l : List Oper} (n : Nat) (hm : P.follows .mixedOrders = true) (hB : Region.lexTailB .any l.toArray n = true) (hnd : noDefer l.toArray = true)
    (h : ∀ W, w = W → wpQuiet P l.toArray (Cls W.heap.size W) (fun a' => ∀ w', Below W.heap.size W w' → wpList P l.toArray (Plainly Q) (l.drop n) a' w') (l.take n) a) : (Code.region id l.toArray true).wpIn (Fence.wide.inRound r) m P Q a w := by
  have h1 := h w rfl
  have e : (fun a' => ∀ w', Below w.heap.size w w' → wpList P l.toArray (Plainly Q) (l.drop n) a' w') = (fun a' => ∀ w', Cls w.heap.size w w' → wpList P l.toArray (Plainly Q) (l.drop n) a' w') := by
    funext a'
    exact propext ⟨fun h w' ⟨u, hu⟩ => by rw [hu]; exact h _ u.2, fun h w' hw => h w' ⟨⟨w', hw⟩, rfl⟩⟩
  rw [e] at h1
  refine wpIn_mono (wpIn_region_any hm (wpAnyIn_of_wpAny (ro := some r) hnd plainly_out _ _ _ _ (wpAny_quiet_tail (C := Cls w.heap.size w) n hB (cls_drew _ _) (by simpa using h1)))) ?_
  rintro e a w ⟨rfl, h⟩
  exact h
/-- what the range yields at its k-th round -/
def encK (ss : Nat → Sh) (n k : Nat) : Array Value := #[.int .i64 ((n : Int) - 1 - k), .agg (vrow 266 (ss (n - 1 - k)).at)]
theorem back_anyK (v : Value) (hv : v.oneCell' = true) (w : World) : Calls Tryd.prog 90 #[v] w fun e w' => e = .returned (.func (.func 108) #[] #[.pointer (some ⟨w.heap.size, 0, none⟩)]) ∧ w' = w.alloc (.cells #[v] 35) := by
  have hc : v.cells = #[v] := by cases v <;> first | rfl | cases hv
  go_enter Tryd.func90, Tryd.ntmps90
  go_wp2
  go_ret
  exact ⟨rfl, by first | rfl | rw [hc]⟩
attribute [local go_sem] Oper.semAt_some
set_option maxRecDepth 100000 in
set_option maxHeartbeats 1000000 in
theorem back1_inK (F : Fence) (m : Nat) (hF : F.fn 108) (hro : F.round = none) (hm : 1 ≤ m) (l b D n : Nat) (ss : Nat → Sh) (hn : n ≤ 1048576) (J Jx : List Nat → World → Prop)
    (hY : ∀ pre x W, J pre W → pre.length < n → YieldAt F (m - 1) Tryd.prog l (encK ss n x) W fun e W' =>
      (e = .returned (.bool true) ∧ J (pre ++ [x]) W' ∧ Kp2 b D W W') ∨ (e = .returned (.bool false) ∧ Jx (pre ++ [x]) W'))
    (W : World) (h1 : W.heap[b]? = some (.cells (vrow 1 fun _ => .slice (some ⟨D, 0, none⟩) n n) 35)) (h2 : W.heap[D]? = some (.cells (vrow (n * 266) (stF ss)) 39)) (h0 : J [] W) :
    CallsIn F m Tryd.prog 108 #[.func (.yield l) #[] #[], .pointer (some ⟨b, 0, none⟩)] W fun e W' => (∃ v, e = .returned v) ∧
      ((∃ ys, ys = List.range n ∧ J ys W') ∨ (∃ pre, True ∧ Jx pre W')) := by
  have hw : ∀ k : Int, -1 ≤ k → k ≤ 4000000 → IntKind.i64.wrap k = k := fun k h1 h2 => IntWalk.i64_in k (by omega)
  refine callsIn_of_wp Tryd.func108 rfl hF ?_ hro
  simp only [Tryd.ntmps108, List.size_toArray, List.length_cons, List.length_nil, Nat.reduceAdd, Nat.reduceSub, Array.replicate_succ, Array.replicate_zero, List.push_toArray, List.append_toArray, List.nil_append, List.cons_append]
  have H1 := Go.Lib.hid h1; have H2 := Go.Lib.hid h2; clear h1 h2
  gi_wp2_with (first
    | (with_reducible refine wlAtB 4 rfl ?_; refine loadoneB rfl 35 (.tmp 1) rfl b 0 rfl 1 (fun _ => .slice (some ⟨D, 0, none⟩) n n) 35 _ Tryd.underlying35 rfl H1.out (by omega) ?_))

  gi_loopw [3] (fun iv wr => ∃ k : Nat, k ≤ n ∧ iv = .int .i64 ((n : Int) - 1 - k) ∧ J (List.range k) wr ∧ wr.heap[b]? = some (.cells (vrow 1 fun _ => .slice (some ⟨D, 0, none⟩) n n) 35) ∧ wr.heap[D]? = some (.cells (vrow (n * 266) (stF ss)) 39)) (fun iv _ => (intOf iv + 1).toNat)
  case atStart => exact ⟨0, by omega, by first | rfl | simp, h0, H1.out, H2.out⟩
  case round =>
    clear H1 H2 h0
    obtain ⟨k, hk, rfl, hJ, h1, h2⟩ := hrel
    have H1 := Go.Lib.hid h1; have H2 := Go.Lib.hid h2; clear h1 h2
    by_cases hlt : k < n
    · obtain ⟨fn, tmps, assign, body, hy, hR⟩ := hY _ k wr hJ (by simpa using hlt)
      obtain ⟨q, hq⟩ : ∃ q, q < n ∧ n - 1 - k = q ∧ k + 1 + q = n := ⟨n - k - 1, by omega, by omega, by omega⟩
      obtain ⟨hqn, hq1, hq2⟩ := hq
      have em : ((n : Int) - 1 - k) = q := by omega
      unfold encK at hy
      rw [hq1, em] at hy
      rw [em]
      have HM2 := Go.Lib.hid hq2
      have hge : decide ((0 : Int) ≤ (q : Int)) = true := by simp
      have hix : (q : Int) < (n : Int) := by omega
      clear em hq1 hq2 hJ
      gi_wp2_with (first
        | (with_reducible refine wlAtB 13 rfl ?_; refine loadoneB rfl 35 (.tmp 1) rfl b 0 rfl 1 (fun _ => .slice (some ⟨D, 0, none⟩) n n) 35 _ Tryd.underlying35 rfl H1.out (by omega) ?_)
        | (with_reducible refine wlAtB 16 rfl ?_; refine loadmidB rfl 39 (.tmp 15) rfl D (q * 266) rfl (n * 266) 266 (stF ss) 39 _ Tryd.underlying39 rfl size_sheet H2.out (by omega) ?_; rw [stF_row ss q]))
      refine hR.mono ?_
      rintro e W3 (⟨rfl, hJ3, hk3⟩ | ⟨rfl, hJx3⟩)
      · have H1' := Go.Lib.hid (hk3.1.trans H1.out); have H2' := Go.Lib.hid (hk3.2.trans H2.out)
        clear hk3 H1 H2
        gi_wp2
        go_roundw
        case rel => exact ⟨k + 1, by omega, by have h := HM2.out; congr 1; omega, by rw [List.range_succ]; exact hJ3, H1'.out, H2'.out⟩
        case measure => simp [intOf]
      · gi_wp2
        refine bodyPost_ret (results_none rfl _ _ _) rfl ?_
        exact ⟨⟨_, rfl⟩, .inr ⟨_, trivial, hJx3⟩⟩
    · obtain rfl : k = n := by omega
      have hge : decide ((0 : Int) ≤ ((k : Int) - 1 - k)) = false := by simp; omega
      gi_wp2
      go_end0
      exact ⟨⟨_, rfl⟩, .inl ⟨_, rfl, hJ⟩⟩
theorem back_seqK (m : Nat) (hm : 1 ≤ m) (b D n : Nat) (ss : Nat → Sh) (hn : n ≤ 1048576) (w : World) (h1 : w.heap[b]? = some (.cells (vrow 1 fun _ => .slice (some ⟨D, 0, none⟩) n n) 35)) (h2 : w.heap[D]? = some (.cells (vrow (n * 266) (stF ss)) 39)) :
    SeqStopsK Fence.wide m Tryd.prog 108 #[.pointer (some ⟨b, 0, none⟩)] (encK ss n) (Kp2 b D) (fun ys => ys = List.range n) (fun _ => True) n w := fun l J Jx W hW _ _ hY h0 =>
  back1_inK Fence.wide m trivial rfl hm l b D n ss hn J Jx hY W ((hW.block _ (row_lt h1)).trans h1) ((hW.block _ (row_lt h2)).trans h2) h0
theorem wp_backK {g : Operand} {p q d : Tmp} {assign body : Code} {Q : Exit → Act → World → Prop} {a : Act} {w : World} (b D n : Nat) (ss : Nat → Sh) (hn : n ≤ 1048576)
    (hg : a.eval g = .func (.func 108) #[] #[.pointer (some ⟨b, 0, none⟩)])
    (h1 : w.heap[b]? = some (.cells (vrow 1 fun _ => .slice (some ⟨D, 0, none⟩) n n) 35)) (h2 : w.heap[D]? = some (.cells (vrow (n * 266) (stF ss)) 39))
    (I : List Nat → World → Prop) (Ix : Code → List Nat → World → Prop) (hI : OwnFrom w.heap.size I) (hIx : ∀ c, OwnFrom w.heap.size (Ix c)) (h0 : I [] w)
    (hassign : ∀ (l : Nat) (x : Nat) (W : World) (K : Act → World → Prop), K { tmps := ((a.tmps.setIfInBounds p (.int .i64 ((n : Int) - 1 - x))).setIfInBounds q (.agg (vrow 266 (ss (n - 1 - x)).at))).setIfInBounds d (.pointer (some ⟨W.heap.size, 0, none⟩)), defers := [] } (W.alloc (.cells (vrow 266 (ss (n - 1 - x)).at) 39)) →
      assign.wpIn (Fence.wide.inRound l) 7 Tryd.prog (Exit.then K (fun _ _ _ => False)) { tmps := ((a.tmps.setIfInBounds p (.int .i64 ((n : Int) - 1 - x))).setIfInBounds q (.agg (vrow 266 (ss (n - 1 - x)).at))), defers := [] } W)
    (hbody : ∀ (l : Nat) (pre : List Nat) (x : Nat) (Wb W : World) (Bx : Nat), Below Wb.heap.size Wb W → w.heap.size ≤ Bx → W.heap[Bx]? = some (.cells (vrow 266 (ss (n - 1 - x)).at) 39) → w.heap.size ≤ Wb.heap.size → I pre W → pre.length < n →
      body.wpIn (Fence.wide.inRound l) 7 Tryd.prog (ownPostG w.heap.size (Kp2 b D) I Ix (pre ++ [x]) Wb) { tmps := ((a.tmps.setIfInBounds p (.int .i64 ((n : Int) - 1 - x))).setIfInBounds q (.agg (vrow 266 (ss (n - 1 - x)).at))).setIfInBounds d (.pointer (some ⟨Bx, 0, none⟩)), defers := [] } W)
    (hdone : ∀ (E : Nat) (W : World), w.heap.size ≤ E → I (List.range n) W → W.heap[E]? = some (.deferred (some [])) → Q .normal { a with defers := { target := .collected E, args := #[] } :: a.defers } W)
    (hstop : ∀ (E : Nat) (c : Code) (pre : List Nat) (W : World), w.heap.size ≤ E → Ix c pre W → W.heap[E]? = some (.deferred (some [])) → c.wp Tryd.prog Q { a with defers := { target := .collected E, args := #[] } :: a.defers } W) :
    (Code.rangeFunc g #[p, q] assign body).wp Tryd.prog Q a w := by
  have hb1 := row_lt h1
  have hb2 := row_lt h2
  refine (wpIn_wide (n := 9)).1 ?_
  refine wpIn_rangeFunc_ownH (F := Fence.wide) (n := 9) rfl (by omega) (gf := 108) (lb := #[.pointer (some ⟨b, 0, none⟩)]) hg trivial (Go.Proofs.enters_of Tryd.func108 (by kernel_rfl) rfl)
    (back_seqK 8 (by omega) b D n ss hn w h1 h2) Kp2.t (Kp2.bB hb1 hb2) (Below.refl _ _) (fun _ => rfl)
    (fun pre W => I pre W ∧ w.heap.size ≤ W.heap.size) Ix (fun s X Y row hs hg hr => ⟨hI s X Y row hs.1 hg hr, Nat.le_trans hs.2 hg.size⟩) hIx ⟨h0, Nat.le_refl _⟩
    (fun x a' W => ∃ Bx, w.heap.size ≤ Bx ∧ W.heap[Bx]? = some (.cells (vrow 266 (ss (n - 1 - x)).at) 39) ∧ a' = { tmps := ((a.tmps.setIfInBounds p (.int .i64 ((n : Int) - 1 - x))).setIfInBounds q (.agg (vrow 266 (ss (n - 1 - x)).at))).setIfInBounds d (.pointer (some ⟨Bx, 0, none⟩)), defers := [] })
    (fun x a' _ X Y row hs hg hr => by
      obtain ⟨Bx, e1, e2, e3⟩ := hs
      refine ⟨Bx, e1, ?_, e3⟩
      refine (hg.block Bx (row_lt e2) fun e => ?_).trans e2
      obtain ⟨o, ho, hc⟩ := (hr Bx e.symm).2
      rw [e2] at ho; cases ho; simp [Obj.isCells] at hc)
    ?_ ?_ ?_ ?_
  · rintro l pre x W K ⟨hi, hsz⟩ hK
    have hk := Below.heap_alloc W (.cells (vrow 266 (ss (n - 1 - x)).at) 39)
    have e : (#[p, q].zip (encK ss n x)).foldl (fun t (q, v) => t.setIfInBounds q v) a.tmps = ((a.tmps.setIfInBounds p (.int .i64 ((n : Int) - 1 - x))).setIfInBounds q (.agg (vrow 266 (ss (n - 1 - x)).at))) := by simp [encK]
    rw [e]
    exact hassign l x W K (hK _ _ ((KeepsOthers.alloc _ _).from _) ⟨hk _ (by omega), hk _ (by omega)⟩ ⟨hI.alloc _ hi, by simp; omega⟩ ⟨W.heap.size, hsz, heap_at _ _ _ rfl, rfl⟩)
  · rintro l pre x a' W hl _ ⟨hi, hsz⟩ ⟨Bx, e1, e2, rfl⟩ hlen
    refine wpIn_mono (hbody l pre x W W Bx (Below.refl _ _) e1 e2 hsz hi hlen) ?_
    intro e a2 W2 hq
    cases e <;> first | exact hq | exact ⟨hq.1, hq.2.1, hq.2.2, Nat.le_trans hsz hq.1.size⟩
  · rintro E xs W hD rfl ⟨hi, _⟩ hd
    exact hdone E W hD hi hd
  · rintro E c pre W hD _ hx hd
    exact (wpIn_wide (n := 9)).2 (hstop E c pre W hD hx hd)
end Go.Proofs.YtfhfiaphdgfmnaaDoor
