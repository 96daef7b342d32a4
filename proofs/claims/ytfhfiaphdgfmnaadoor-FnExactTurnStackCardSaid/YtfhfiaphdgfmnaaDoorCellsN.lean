import Derived.Test.YtfhfiaphdgfmnaaDoorG1
namespace Go.Proofs.YtfhfiaphdgfmnaaDoor
open Go.RowKit
set_option maxRecDepth 100000
set_option linter.unusedVariables false
set_option linter.unusedSimpArgs false
attribute [local go_sem] Oper.semAt_some
/-- A place of a grid of a columns and c rows. -/
abbrev SpN (a c : Nat) := { p : Nat × Nat // p.1 < a ∧ p.2 < c }
def rowN (a c y : Nat) (hy : y < c) : (j : Nat) → j ≤ a → List (SpN a c)
  | 0, _ => []
  | j + 1, h => rowN a c y hy j (by omega) ++ [⟨(j, y), by omega, hy⟩]
def cellsN (a c : Nat) : (k : Nat) → k ≤ c → List (SpN a c)
  | 0, _ => []
  | k + 1, h => cellsN a c k (by omega) ++ rowN a c k (by omega) a (Nat.le_refl _)
theorem rowN_length (a c y : Nat) (hy : y < c) : ∀ j h, (rowN a c y hy j h).length = j
  | 0, _ => rfl
  | j + 1, h => by simp [rowN, rowN_length a c y hy j]
theorem cellsN_length (a c : Nat) : ∀ k h, (cellsN a c k h).length = a * k
  | 0, _ => rfl
  | k + 1, h => by simp [cellsN, cellsN_length a c k, rowN_length, Nat.mul_succ]
theorem rowN_val (a c y : Nat) (hy : y < c) : ∀ j h, (rowN a c y hy j h).map (·.1) = (List.range j).map fun x => (x, y)
  | 0, _ => rfl
  | j + 1, h => by simp [rowN, rowN_val a c y hy j, List.range_succ]
/-- the cells as pairs -/
def pairsL (a c : Nat) : List (Nat × Nat) := (List.range c).flatMap fun y => (List.range a).map fun x => (x, y)
theorem pairsL_succ (a c : Nat) : pairsL a (c + 1) = pairsL a c ++ (List.range a).map fun x => (x, c) := by simp [pairsL, List.range_succ]
theorem cellsN_val (a c : Nat) : ∀ k h, (cellsN a c k h).map (·.1) = pairsL a k
  | 0, _ => rfl
  | k + 1, h => by rw [cellsN, List.map_append, cellsN_val a c k, rowN_val, pairsL_succ]
theorem cellsL_val (a c : Nat) (ha : a ≤ 8) : ∀ k, k ≤ 8 → (cellsL a k).map (·.1) = pairsL a k
  | 0, _ => rfl
  | k + 1, h => by
    rw [cellsL_succ, List.map_append, cellsL_val a c ha k (by omega), pairsL_succ]
    congr 1
    simp only [rowOf, List.map_map]
    exact List.map_congr_left fun x hx => mk8_x (by have := List.mem_range.1 hx; omega) (by omega)
theorem pairsL_mem {a c : Nat} {p : Nat × Nat} (h : p ∈ pairsL a c) : p.1 < a ∧ p.2 < c := by
  simp only [pairsL, List.mem_flatMap, List.mem_range, List.mem_map] at h
  obtain ⟨y, hy, x, hx, rfl⟩ := h
  exact ⟨hx, hy⟩
theorem pairsL_nodup (a : Nat) : ∀ c, (pairsL a c).Nodup
  | 0 => by simp [pairsL]
  | c + 1 => by
    rw [pairsL_succ]
    refine List.nodup_append.2 ⟨pairsL_nodup a c, ?_, ?_⟩
    · exact List.Pairwise.map _ (fun _ _ h e => h (by simpa using congrArg Prod.fst e)) List.nodup_range
    · intro p hp q hq e
      subst e
      have := (pairsL_mem hp).2
      simp only [List.mem_map, List.mem_range] at hq
      obtain ⟨x, _, rfl⟩ := hq
      omega
def encN {a c : Nat} (p : SpN a c) : Array Value := #[.agg #[.int .i8 p.1.1, .int .i8 p.1.2]]
set_option maxRecDepth 100000 in
set_option maxHeartbeats 1000000 in
theorem cells1N (F : Fence) (n : Nat) (hF : F.fn 111) (hro : F.round = none) (hn : 1 ≤ n) (l b1 b2 a c : Nat) (ha : a ≤ 8) (hc : c ≤ 8) (J Jx : List (SpN a c) → World → Prop)
    (hY : ∀ pre x W, J pre W → pre.length < a * c → YieldAt F (n - 1) Tryd.prog l (encN x) W fun e W' =>
      (e = .returned (.bool true) ∧ J (pre ++ [x]) W' ∧ Kp2 b1 b2 W W') ∨ (e = .returned (.bool false) ∧ Jx (pre ++ [x]) W'))
    (W : World) (h1 : W.heap[b1]? = some (.cells #[.int .i8 c] 23)) (h2 : W.heap[b2]? = some (.cells #[.int .i8 a] 23)) (h0 : J [] W) :
    CallsIn F n Tryd.prog 111 #[.func (.yield l) #[] #[], .pointer (some ⟨b1, 0, none⟩), .pointer (some ⟨b2, 0, none⟩)] W fun e W' => (∃ v, e = .returned v) ∧
      ((∃ ys, ys = cellsN a c c (Nat.le_refl _) ∧ J ys W') ∨ (∃ pre, True ∧ Jx pre W')) := by
  refine callsIn_of_wp Tryd.func111 rfl hF ?_ hro
  simp only [Tryd.ntmps111, List.size_toArray, List.length_cons, List.length_nil, Nat.reduceAdd, Nat.reduceSub, Array.replicate_succ, Array.replicate_zero, List.push_toArray, List.append_toArray, List.nil_append, List.cons_append]
  have c1 := cell_of_row W b1 0 _ _ (0, 0) h1
  have c2 := cell_of_row W b2 0 _ _ (0, 0) h2
  simp at c1 c2
  have H1 := Go.Lib.hid h1; have H2 := Go.Lib.hid h2; clear h1 h2
  gi_wp2
  gi_loopw [7] (fun yv wr => ∃ (k : Nat) (hk : k ≤ c), yv = .int .i8 k ∧ J (cellsN a c k hk) wr ∧ wr.heap[b1]? = some (.cells #[.int .i8 c] 23) ∧ wr.heap[b2]? = some (.cells #[.int .i8 a] 23)) (fun yv _ => c - (intOf yv).toNat)
  case atStart => exact ⟨0, by omega, rfl, h0, H1.out, H2.out⟩
  case round =>
    clear c1 c2 H1 H2 h0
    obtain ⟨k, hk, rfl, hJ, h1, h2⟩ := hrel
    have c2 := cell_of_row wr b2 0 _ _ (0, 0) h2
    simp at c2
    have H1 := Go.Lib.hid h1; have H2 := Go.Lib.hid h2; clear h1 h2
    by_cases hlt : k < c
    · have hdk : decide ((k : Int) < c) = true := by simp; omega
      gi_wp2
      obtain ⟨wo, hwo⟩ : ∃ wo : World, wo = wr := ⟨_, rfl⟩
      rw [← hwo] at hJ c2 H1 H2 ⊢
      clear hwo wr
      gi_loopw [11] (fun xv wr => ∃ (j : Nat) (hj : j ≤ a), xv = .int .i8 j ∧ J (cellsN a c k hk ++ rowN a c k hlt j hj) wr ∧ wr.heap[b1]? = some (.cells #[.int .i8 c] 23) ∧ wr.heap[b2]? = some (.cells #[.int .i8 a] 23)) (fun xv _ => a - (intOf xv).toNat)
      case atStart => exact ⟨0, by omega, rfl, by simpa [rowN] using hJ, H1.out, H2.out⟩
      case round =>
        clear c2 H1 H2 hJ
        obtain ⟨j, hj, rfl, hJ, h1, h2⟩ := hrel
        have H1 := Go.Lib.hid h1; have H2 := Go.Lib.hid h2; clear h1 h2
        by_cases hlj : j < a
        · have hjk : a * (k + 1) ≤ a * c := Nat.mul_le_mul_left a (by omega)
          have hlen : (cellsN a c k hk ++ rowN a c k hlt j hj).length < a * c := by
            rw [List.length_append, cellsN_length, rowN_length]; rw [Nat.mul_succ] at hjk; omega
          obtain ⟨fn, tmps, assign, body, hy, hR⟩ := hY _ ⟨(j, k), hlj, hlt⟩ wr hJ hlen
          simp only [encN] at hy
          clear hjk hlen
          gi_wp2
          refine hR.mono ?_
          rintro e W3 (⟨rfl, hJ3, hk3⟩ | ⟨rfl, hJx3⟩)
          · have H1' := Go.Lib.hid (hk3.1.trans H1.out); have H2' := Go.Lib.hid (hk3.2.trans H2.out)
            clear hk3 H1 H2
            gi_wp2
            go_roundw
            case rel => exact ⟨j + 1, by omega, by go_num, by rw [rowN, ← List.append_assoc]; exact hJ3, H1'.out, H2'.out⟩
            case measure => simp [intOf]; omega
          · gi_wp2
            refine bodyPost_ret (results_none rfl _ _ _) rfl ?_
            exact ⟨⟨_, rfl⟩, .inr ⟨_, trivial, hJx3⟩⟩
        · obtain rfl : j = a := by omega
          gi_wp2
          go_roundw
          case rel => exact ⟨k + 1, by omega, by go_num, by rw [cellsN]; exact hJ, H1.out, H2.out⟩
          case measure => simp [intOf]; omega
    · obtain rfl : k = c := by omega
      gi_wp2
      go_end0
      exact ⟨⟨_, rfl⟩, .inl ⟨_, rfl, hJ⟩⟩
theorem cellsN_seq (n : Nat) (hn : 1 ≤ n) (b1 b2 a c : Nat) (ha : a ≤ 8) (hc : c ≤ 8) (w : World) (h1 : w.heap[b1]? = some (.cells #[.int .i8 c] 23)) (h2 : w.heap[b2]? = some (.cells #[.int .i8 a] 23)) :
    SeqStopsK Fence.wide n Tryd.prog 111 #[.pointer (some ⟨b1, 0, none⟩), .pointer (some ⟨b2, 0, none⟩)] encN (Kp2 b1 b2) (fun (ys : List (SpN a c)) => ys = cellsN a c c (Nat.le_refl _)) (fun _ => True) (a * c) w := fun l J Jx W hW _ _ hY h0 =>
  cells1N Fence.wide n trivial rfl hn l b1 b2 a c ha hc J Jx hY W ((hW.block _ (row_lt h1)).trans h1) ((hW.block _ (row_lt h2)).trans h2) h0
/-- A RANGE OVER cells(..), its variable boxed. -/
theorem wp_cellsN {g : Operand} {p d : Tmp} {assign body : Code} {Q : Exit → Act → World → Prop} {a : Act} {w : World} (b1 b2 aa cc : Nat) (haa : aa ≤ 8) (hcc : cc ≤ 8)
    (hg : a.eval g = .func (.func 111) #[] #[.pointer (some ⟨b1, 0, none⟩), .pointer (some ⟨b2, 0, none⟩)])
    (h1 : w.heap[b1]? = some (.cells #[.int .i8 cc] 23)) (h2 : w.heap[b2]? = some (.cells #[.int .i8 aa] 23))
    (I : List (SpN aa cc) → World → Prop) (Ix : Code → List (SpN aa cc) → World → Prop) (hI : OwnFrom w.heap.size I) (hIx : ∀ c, OwnFrom w.heap.size (Ix c)) (h0 : I [] w)
    (hassign : ∀ (l : Nat) (x : SpN aa cc) (W : World) (K : Act → World → Prop), K { tmps := (a.tmps.setIfInBounds p (.agg #[.int .i8 x.1.1, .int .i8 x.1.2])).setIfInBounds d (.pointer (some ⟨W.heap.size, 0, none⟩)), defers := [] } (W.alloc (.cells (vrow 2 (spAt x.1.1 x.1.2)) 105)) →
      assign.wpIn (Fence.wide.inRound l) 7 Tryd.prog (Exit.then K (fun _ _ _ => False)) { tmps := a.tmps.setIfInBounds p (.agg #[.int .i8 x.1.1, .int .i8 x.1.2]), defers := [] } W)
    (hbody : ∀ (l : Nat) (pre : List (SpN aa cc)) (x : SpN aa cc) (Wb W : World) (Bx : Nat), Below Wb.heap.size Wb W → w.heap.size ≤ Bx → W.heap[Bx]? = some (.cells (vrow 2 (spAt x.1.1 x.1.2)) 105) → w.heap.size ≤ Wb.heap.size → I pre W → pre.length < aa * cc →
      body.wpIn (Fence.wide.inRound l) 7 Tryd.prog (ownPostG w.heap.size (Kp2 b1 b2) I Ix (pre ++ [x]) Wb) { tmps := (a.tmps.setIfInBounds p (.agg #[.int .i8 x.1.1, .int .i8 x.1.2])).setIfInBounds d (.pointer (some ⟨Bx, 0, none⟩)), defers := [] } W)
    (hdone : ∀ (D : Nat) (W : World), w.heap.size ≤ D → I (cellsN aa cc cc (Nat.le_refl _)) W → W.heap[D]? = some (.deferred (some [])) → Q .normal { a with defers := { target := .collected D, args := #[] } :: a.defers } W)
    (hstop : ∀ (D : Nat) (c : Code) (pre : List (SpN aa cc)) (W : World), w.heap.size ≤ D → Ix c pre W → W.heap[D]? = some (.deferred (some [])) → c.wp Tryd.prog Q { a with defers := { target := .collected D, args := #[] } :: a.defers } W) :
    (Code.rangeFunc g #[p] assign body).wp Tryd.prog Q a w := by
  have hb1 := row_lt h1
  have hb2 := row_lt h2
  refine (wpIn_wide (n := 9)).1 ?_
  refine wpIn_rangeFunc_ownH (F := Fence.wide) (n := 9) rfl (by omega) (gf := 111) (lb := #[.pointer (some ⟨b1, 0, none⟩), .pointer (some ⟨b2, 0, none⟩)]) hg trivial (Go.Proofs.enters_of Tryd.func111 (by kernel_rfl) rfl)
    (cellsN_seq 8 (by omega) b1 b2 aa cc haa hcc w h1 h2) Kp2.t (Kp2.b hb1 hb2) (Below.refl _ _) (fun _ => rfl)
    (fun pre W => I pre W ∧ w.heap.size ≤ W.heap.size) Ix (fun s X Y row hs hg hr => ⟨hI s X Y row hs.1 hg hr, Nat.le_trans hs.2 hg.size⟩) hIx ⟨h0, Nat.le_refl _⟩
    (fun x a' W => ∃ Bx, w.heap.size ≤ Bx ∧ W.heap[Bx]? = some (.cells (vrow 2 (spAt x.1.1 x.1.2)) 105) ∧ a' = { tmps := (a.tmps.setIfInBounds p (.agg #[.int .i8 x.1.1, .int .i8 x.1.2])).setIfInBounds d (.pointer (some ⟨Bx, 0, none⟩)), defers := [] })
    (fun x a' _ X Y row hs hg hr => by
      obtain ⟨Bx, e1, e2, e3⟩ := hs
      refine ⟨Bx, e1, ?_, e3⟩
      refine (hg.block Bx (row_lt e2) fun e => ?_).trans e2
      obtain ⟨o, ho, hc⟩ := (hr Bx e.symm).2
      rw [e2] at ho; cases ho; simp [Obj.isCells] at hc)
    ?_ ?_ ?_ ?_
  · rintro l pre x W K ⟨hi, hsz⟩ hK
    have hk := Below.heap_alloc W (.cells (vrow 2 (spAt x.1.1 x.1.2)) 105)
    have e : (#[p].zip (encN x)).foldl (fun t (q, v) => t.setIfInBounds q v) a.tmps = a.tmps.setIfInBounds p (.agg #[.int .i8 x.1.1, .int .i8 x.1.2]) := by simp [encN]
    rw [e]
    exact hassign l x W K (hK _ _ ((KeepsOthers.alloc _ _).from _) ⟨hk _ (by omega), hk _ (by omega)⟩ ⟨hI.alloc _ hi, by simp; omega⟩ ⟨W.heap.size, hsz, heap_at _ _ _ rfl, rfl⟩)
  · rintro l pre x a' W hl _ ⟨hi, hsz⟩ ⟨Bx, e1, e2, rfl⟩ hlen
    refine wpIn_mono (hbody l pre x W W Bx (Below.refl _ _) e1 e2 hsz hi hlen) ?_
    intro e a2 W2 hq
    cases e <;> first | exact hq | exact ⟨hq.1, hq.2.1, hq.2.2, Nat.le_trans hsz hq.1.size⟩
  · rintro D xs W hD rfl ⟨hi, _⟩ hd
    exact hdone D W hD hi hd
  · rintro D c pre W hD _ hx hd
    exact (wpIn_wide (n := 9)).2 (hstop D c pre W hD hx hd)
end Go.Proofs.YtfhfiaphdgfmnaaDoor
