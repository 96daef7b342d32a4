import Derived.Deep.RegionHeld3
import Derived.Test.YtgbhchmpeioaiaaDoorRangeE
import Derived.Test.YtgbhchmpeioaiaaDoorG1
import Derived.Test.YtgbhchmpeioaiaaDoorClos
import Derived.Test.YtgbhchmpeioaiaaDoorImplV
namespace Go.Proofs.YtgbhchmpeioaiaaDoor
open Go.RowKit
set_option maxRecDepth 100000
set_option linter.unusedVariables false
set_option linter.unusedSimpArgs false
attribute [local go_sem] Oper.semAt_some
/-- what the rounds below k have moved -/
def sumR (R : Nat → Int) : Nat → Int
  | 0 => 0
  | k + 1 => sumR R k + R k
theorem sumR_bd {R : Nat → Int} (h : ∀ k, 0 ≤ R k ∧ R k ≤ 1000) : ∀ k : Nat, 0 ≤ sumR R k ∧ sumR R k ≤ 1000 * (k : Int)
  | 0 => by simp [sumR]
  | k + 1 => by
    have := sumR_bd h k
    have := h k
    simp only [sumR]; omega
/-- stable under what lies at or behind B -/
def StabAt (B : Nat) (S : Nat → World → Prop) : Prop := ∀ k W W' (row : Option Nat), S k W → W.grownBy W' row → (∀ r, row = some r → B ≤ r) → S k W'
theorem grown_row_any {A B C : World} {row row' : Option Nat} (h : A.grownBy B row) (g : B.grownBy C row') (hr : ∀ r, row' = some r → A.heap.size ≤ r) : A.grownBy C row :=
  ⟨g.os.trans h.os, g.tape.trans h.tape, g.output.trans h.output, Nat.le_trans h.size g.size, fun k hk hne => (g.block k (Nat.lt_of_lt_of_le hk h.size) (fun e => by have := hr k e.symm; omega)).trans (h.block k hk hne)⟩
theorem keep_at {A B : World} {row : Option Nat} {b : Nat} {x : Obj} (g : A.grownBy B row) (hx : A.heap[b]? = some x) (hr : ∀ r, row = some r → b ≠ r) : B.heap[b]? = some x :=
  (g.block b (row_lt hx) (fun e => absurd rfl (hr b e.symm))).trans hx
theorem grown_two {A B C : World} {row : Option Nat} (h : A.grownBy B row) (g : B.grownBy C row) : A.grownBy C row :=
  ⟨g.os.trans h.os, g.tape.trans h.tape, g.output.trans h.output, Nat.le_trans h.size g.size, fun k hk hne => (g.block k (Nat.lt_of_lt_of_le hk h.size) hne).trans (h.block k hk hne)⟩
theorem wlAtS (d : Nat) {F : Fence} {n : Nat} {P : Program} {ops : Array Oper} {Q : Exit → Act → World → Prop} {l : List Oper} {o : Oper} {a : Act} {w : World} (_ : o.dst = some d) (h : wpListIn F n P ops Q (o :: l) a w) : wpListIn F n P ops Q (o :: l) a w := h
theorem wlOpS (p : Op) {F : Fence} {n : Nat} {P : Program} {ops : Array Oper} {Q : Exit → Act → World → Prop} {l : List Oper} {o : Oper} {a : Act} {w : World} (_ : o.op = p) (h : wpListIn F n P ops Q (o :: l) a w) : wpListIn F n P ops Q (o :: l) a w := h
theorem size_i64s : (Tryd.prog.info? 2).map (·.size) = some 1 := by kernel_rfl
theorem rounds_any (m : Nat) (caps : Array Value) (w : World) : Calls Tryd.prog 109 #[.int .i64 m, (.func (.func 79) #[] caps)] w fun e w' => e = .returned (.func (.func 124) #[] #[.pointer (some ⟨w.heap.size, 0, none⟩), .pointer (some ⟨w.heap.size + 1, 0, none⟩)]) ∧ w' = (w.alloc (.cells #[.int .i64 m] 2)).alloc (.cells #[(.func (.func 79) #[] caps)] 108) := by
  go_enter Tryd.func109, Tryd.ntmps109
  go_wp2
  go_ret
  exact ⟨rfl, rfl⟩
set_option maxRecDepth 100000 in
set_option maxHeartbeats 2000000 in
theorem rounds_seq (m b1 b2 mt B : Nat) (caps : Array Value) (R : Nat → Int) (I Y : Nat → World → Prop) (hB : mt < B)
    (hbox : ∀ k W, I k W → W.heap[b1]? = some (.cells #[.int .i64 m] 2) ∧ W.heap[b2]? = some (.cells #[(.func (.func 79) #[] caps)] 108))
    (hround : ∀ k W, I k W → k < m → Calls Tryd.prog 79 caps W fun e W' => e = .returned (.int .i64 (R k)) ∧ Y k W' ∧ W.grownBy W' (some mt)) (hm : m ≤ 1000) :
    SeqE Tryd.prog 124 #[.pointer (some ⟨b1, 0, none⟩), .pointer (some ⟨b2, 0, none⟩)] (fun k => .int .i64 (R k)) I Y B (fun k => k = m) := by
  intro l Bk X W hBl hstab hY h0 hBk
  refine callsIn_of_wp Tryd.func124 rfl trivial ?_ rfl
  simp only [Tryd.ntmps124, List.size_toArray, List.length_cons, List.length_nil, Nat.reduceAdd, Nat.reduceSub, Array.replicate_succ, Array.replicate_zero, List.push_toArray, List.append_toArray, List.nil_append, List.cons_append]
  obtain ⟨h1, h2⟩ := hbox 0 W h0
  have c1 := cell_of_row W b1 0 _ _ (0, 0) h1
  simp at c1
  have HBX := Go.Lib.hid hbox; have HRD := Go.Lib.hid hround; have HST := Go.Lib.hid hstab; have HYY := Go.Lib.hid hY
  clear hbox hround hstab hY h1 h2
  gi_wp2
  gi_loopw [5] (fun iv wr => ∃ k : Nat, k ≤ m ∧ iv = .int .i64 k ∧ I k wr ∧ Bk wr) (fun iv _ => m - (intOf iv).toNat)
  case atStart => exact ⟨0, by omega, rfl, h0, hBk⟩
  case round =>
    clear c1 h0 hBk
    obtain ⟨k, hk, rfl, hI, hBk⟩ := hrel
    by_cases hlt : k < m
    · obtain ⟨h1, h2⟩ := HBX.out k wr hI
      have c2 := cell_of_row wr b2 0 _ _ (0, 0) h2
      simp at c2
      have hdk : decide ((k : Int) < m) = true := by simp; omega
      have HR := HRD.out k wr hI hlt
      clear h1 h2
      gi_wp2_with (first
        | (gi_at_call 79; refine ((callsIn_wide (n := _)).2 HR).mono ?_; rintro e W1 ⟨rfl, hy, hg⟩; obtain ⟨fn, tmps, assign, body, hyl, hRR⟩ := HYY.out k W1 hy (HST.out wr W1 _ hBk hg (fun r e => by cases e; exact hB)))
        | (refine ⟨trivial, ?_⟩; (gi_at_call 79; refine ((callsIn_wide (n := _)).2 HR).mono ?_; rintro e W1 ⟨rfl, hy, hg⟩; obtain ⟨fn, tmps, assign, body, hyl, hRR⟩ := HYY.out k W1 hy (HST.out wr W1 _ hBk hg (fun r e => by cases e; exact hB)))))
      refine hRR.mono ?_
      rintro e W3 (⟨rfl, hI3, hB3⟩ | ⟨rfl, hX3⟩)
      · gi_wp2
        go_roundw
        case rel => exact ⟨k + 1, by omega, by go_num, hI3, hB3⟩
        case measure => simp [intOf]; omega
      · gi_wp2
        refine bodyPost_ret (results_none rfl _ _ _) rfl ?_
        exact ⟨⟨_, rfl⟩, .inr hX3⟩
    · obtain rfl : k = m := by omega
      have hdk : decide ((k : Int) < k) = false := by simp
      gi_wp2
      go_end0
      exact ⟨⟨_, rfl⟩, .inl ⟨k, rfl, hI, hBk⟩⟩
set_option maxRecDepth 100000 in
set_option maxHeartbeats 4000000 in
theorem sumOf_any (m mt : Nat) (caps : Array Value) (R : Nat → Int) (S : Nat → World → Prop) (w : World) (hmt : mt < w.heap.size) (hm : m ≤ 1000) (hR : ∀ k, 0 ≤ R k ∧ R k ≤ 1000) (hS : StabAt w.heap.size S)
    (hround : ∀ k W, S k W → k < m → Calls Tryd.prog 79 caps W fun e W' => e = .returned (.int .i64 (R k)) ∧ S (k + 1) W' ∧ W.grownBy W' (some mt)) (h0 : S 0 w) :
    Calls Tryd.prog 78 #[.int .i64 m, (.func (.func 79) #[] caps)] w fun e w' => ∃ k, k ≤ m ∧ e = .returned (.int .i64 (sumR R k)) ∧ w.grownBy w' (some mt) ∧ ((k = m ∧ S m w') ∨ (k < m ∧ R k = 0 ∧ S (k + 1) w')) := by
  have HBD := Go.Lib.hid (sumR_bd hR)
  have HR := Go.Lib.hid hR; have HS := Go.Lib.hid hS; have HRD := Go.Lib.hid hround; have H0 := Go.Lib.hid h0
  refine (callsIn_wide (n := 9)).1 ?_
  refine callsIn_of_wp_marks Tryd.func78 rfl trivial ?_ rfl
  simp only [Tryd.ntmps78, List.size_toArray, List.length_cons, List.length_nil, Nat.reduceAdd, Nat.reduceSub, Array.replicate_succ, Array.replicate_zero, List.push_toArray, List.append_toArray, List.nil_append, List.cons_append]
  refine wpIn_wide.2 ?_
  clear hR hS hround h0
  go_wp2_with (first
    | go_skip
    | (go_at_call 109; refine (rounds_any m _ _).mono ?_; rintro e w2 ⟨rfl, rfl⟩))
  have sb := heap_past ((w.alloc (.cells #[.int .i64 0] 2)).alloc (.cells #[.int .i64 m] 2)) (.cells #[(.func (.func 79) #[] caps)] 108) _ w.heap.size (by simp <;> omega) (heap_past (w.alloc (.cells #[.int .i64 0] 2)) (.cells #[.int .i64 m] 2) _ w.heap.size (by simp) (heap_at w (.cells #[.int .i64 0] 2) _ rfl))
  have x1 := heap_past ((w.alloc (.cells #[.int .i64 0] 2)).alloc (.cells #[.int .i64 m] 2)) (.cells #[(.func (.func 79) #[] caps)] 108) _ (w.heap.size + 1) (by simp) (heap_at (w.alloc (.cells #[.int .i64 0] 2)) (.cells #[.int .i64 m] 2) (w.heap.size + 1) (by simp))
  have x2 := heap_at ((w.alloc (.cells #[.int .i64 0] 2)).alloc (.cells #[.int .i64 m] 2)) (.cells #[(.func (.func 79) #[] caps)] 108) (w.heap.size + 2) (by simp)
  have hb : Below w.heap.size w (((w.alloc (.cells #[.int .i64 0] 2)).alloc (.cells #[.int .i64 m] 2)).alloc (.cells #[(.func (.func 79) #[] caps)] 108)) := (((Below.refl _ _).alloc (Nat.le_refl _) _).alloc (by simp) _).alloc (by simp <;> omega) _
  generalize ((w.alloc (.cells #[.int .i64 0] 2)).alloc (.cells #[.int .i64 m] 2)).alloc (.cells #[(.func (.func 79) #[] caps)] 108) = W0 at sb x1 x2 hb ⊢
  have hG0 : w.grownBy W0 (some mt) := grown_next (grown_refl w _) hb
  have hN := hb.size
  have n2 := row_lt x2
  refine wp_rangeE (V := fun k => .int .i64 (R k)) (I := fun k W => S k W ∧ (W.heap[w.heap.size + 1]? = some (.cells #[.int .i64 m] 2) ∧ W.heap[w.heap.size + 2]? = some (.cells #[(.func (.func 79) #[] caps)] 108)) ∧ (W.heap[w.heap.size]? = some (.cells (vrow 1 fun _ => .int .i64 (sumR R k)) 2)) ∧ w.grownBy W (some mt)) (Y := fun k W => k < m ∧ S (k + 1) W ∧ (W.heap[w.heap.size + 1]? = some (.cells #[.int .i64 m] 2) ∧ W.heap[w.heap.size + 2]? = some (.cells #[(.func (.func 79) #[] caps)] 108)) ∧ (W.heap[w.heap.size]? = some (.cells (vrow 1 fun _ => .int .i64 (sumR R k)) 2)) ∧ w.grownBy W (some mt)) (Done := fun k => k = m)
    (ax := fun k => { tmps := #[.int .i64 m, (.func (.func 79) #[] caps), undef, undef, .int .i64 0, .pointer (some ⟨w.heap.size, 0, none⟩), .int .i64 (R k), .int .i64 m, (.func (.func 79) #[] caps), .func (.func 124) #[] #[.pointer (some ⟨w.heap.size + 1, 0, none⟩), .pointer (some ⟨w.heap.size + 2, 0, none⟩)], .int .i64 (R k), undef, undef, undef, undef, undef, undef], defers := [] })
    rfl (Go.Proofs.enters_of Tryd.func124 (by kernel_rfl) rfl)
    (rounds_seq m (w.heap.size + 1) (w.heap.size + 2) mt W0.heap.size caps R _ _ (by omega) (fun k W h => h.2.1) (fun k W h hlt => ?seqr) hm)
    (fun c W => c = .exit 0 ∧ ∃ k, k < m ∧ R k = 0 ∧ S (k + 1) W ∧ (W.heap[w.heap.size]? = some (.cells (vrow 1 fun _ => .int .i64 (sumR R k)) 2)) ∧ w.grownBy W (some mt)) ?oi ?oy ?ox ⟨HS.out 0 w W0 none H0.out (grown_next (grown_refl w none) hb) (fun r e => by cases e), ⟨x1, x2⟩, sb, hG0⟩ ?assign ?body ?done ?stop
  case seqr =>
    obtain ⟨hs, ⟨b1, b2⟩, hsb, hg⟩ := h
    refine (HRD.out k W hs hlt).mono ?_
    rintro e W' ⟨he, hs', hg'⟩
    exact ⟨he, ⟨hlt, hs', ⟨keep_at hg' b1 (fun r e => by cases e; omega), keep_at hg' b2 (fun r e => by cases e; omega)⟩, keep_at hg' hsb (fun r e => by cases e; omega), grown_two hg hg'⟩, hg'⟩
  case oi =>
    intro k W W' row h hg hr
    obtain ⟨hs, ⟨b1, b2⟩, hsb, hg0⟩ := h
    exact ⟨HS.out k W W' row hs hg (fun r e => by have := (hr r e).1; omega), ⟨keep_at hg b1 (fun r e => by have := (hr r e).1; omega), keep_at hg b2 (fun r e => by have := (hr r e).1; omega)⟩, keep_at hg hsb (fun r e => by have := (hr r e).1; omega), grown_row_any hg0 hg (fun r e => by have := (hr r e).1; omega)⟩
  case oy =>
    intro k W W' row h hg hr
    obtain ⟨hlt, hs, ⟨b1, b2⟩, hsb, hg0⟩ := h
    exact ⟨hlt, HS.out (k + 1) W W' row hs hg (fun r e => by have := (hr r e).1; omega), ⟨keep_at hg b1 (fun r e => by have := (hr r e).1; omega), keep_at hg b2 (fun r e => by have := (hr r e).1; omega)⟩, keep_at hg hsb (fun r e => by have := (hr r e).1; omega), grown_row_any hg0 hg (fun r e => by have := (hr r e).1; omega)⟩
  case ox =>
    intro c W W' row h hg hr
    obtain ⟨hc, k, h1, h2, hs, hsb, hg0⟩ := h
    exact ⟨hc, k, h1, h2, HS.out (k + 1) W W' row hs hg (fun r e => by have := (hr r e).1; omega), keep_at hg hsb (fun r e => by have := (hr r e).1; omega), grown_row_any hg0 hg (fun r e => by have := (hr r e).1; omega)⟩
  case assign =>
    intro l k W K hK
    simp only [List.setIfInBounds_toArray, List.set_cons_succ, List.set_cons_zero]
    gi_wp2
    exact hK
  case body =>
    intro l k W hsz h
    obtain ⟨hlt, hs, ⟨b1, b2⟩, hsb, hg⟩ := h
    obtain ⟨r1, r2⟩ := HR.out k
    obtain ⟨q1, q2⟩ := HBD.out k
    by_cases hz : R k = 0
    · have hd : decide (R k = 0) = true := by simpa using hz
      gi_wp2
      exact ⟨KeepsFrom.refl _ _, rfl, k, hlt, hz, hs, hsb, hg⟩
    · have hd : decide (R k = 0) = false := by simpa using hz
      have hbq : (R k == 0) = false := by simpa using hz
      have hsum : IntKind.i64.wrap (sumR R k + R k) = sumR R (k + 1) := IntWalk.i64_in (sumR R k + R k) (by omega)
      have hs2 := HS.out (k + 1) W _ (some w.heap.size) hs (grown_set (grown_refl W (some w.heap.size)) (vrow 1 fun _ => .int .i64 (sumR R (k + 1)))) (fun r e => by cases e; omega)
      have SB := Go.Lib.hid hsb
      have HSM := Go.Lib.hid hsum
      have HD := Go.Lib.hid (show KeepsFrom W0.heap.size W (W.setRow w.heap.size (vrow 1 fun _ => .int .i64 (sumR R (k + 1)))) ∧ S (k + 1) (W.setRow w.heap.size (vrow 1 fun _ => .int .i64 (sumR R (k + 1)))) ∧ ((W.setRow w.heap.size (vrow 1 fun _ => .int .i64 (sumR R (k + 1)))).heap[w.heap.size + 1]? = some (.cells #[.int .i64 m] 2) ∧ (W.setRow w.heap.size (vrow 1 fun _ => .int .i64 (sumR R (k + 1)))).heap[w.heap.size + 2]? = some (.cells #[(.func (.func 79) #[] caps)] 108)) ∧ (W.setRow w.heap.size (vrow 1 fun _ => .int .i64 (sumR R (k + 1)))).heap[w.heap.size]? = some (.cells (vrow 1 fun _ => .int .i64 (sumR R (k + 1))) 2) ∧ w.grownBy (W.setRow w.heap.size (vrow 1 fun _ => .int .i64 (sumR R (k + 1)))) (some mt) from
        ⟨keeps_setRow hsb _, hs2, ⟨(setRow_other _ _ _ _ (by omega)).trans b1, (setRow_other _ _ _ _ (by omega)).trans b2⟩, row_set hsb _, grown_row_any hg (grown_set (grown_refl W (some w.heap.size)) _) (fun r e => by cases e; omega)⟩)
      clear hs2 hs hg b1 b2 hsb hsum
      gi_wp2_with (first
        | ((with_reducible refine wlAtS 13 rfl ?_); refine loadoneIn rfl 2 (.tmp 5) rfl w.heap.size 0 rfl 1 (fun _ => .int .i64 (sumR R k)) _ _ Tryd.underlying2 rfl SB.out (by omega) ?_; simp only [Act.put, List.setIfInBounds_toArray, List.set_cons_succ, List.set_cons_zero])
        | ((with_reducible refine wlOpS (.store 2 (.tmp 5) (.tmp 15)) rfl ?_); refine wpListIn_store1 rfl 2 (.tmp 5) (.tmp 15) rfl w.heap.size 0 rfl 1 (fun _ => .int .i64 (sumR R k)) (.int .i64 (sumR R (k + 1))) (by first | rfl | (rw [← HSM.out]; rfl)) 2 size_i64s SB.out (by omega) rfl ?_; rw [vrow_over_all]))
      exact HD.out
  case done =>
    rintro D k W hD rfl ⟨hs, hbx, hsb, hg⟩ hd
    have SB := Go.Lib.hid hsb
    replace hd := Go.Lib.hid hd
    go_wp2_with (first
      | go_skip
      | ((with_reducible refine wlAt 16 rfl ?_); refine wpList_load1 rfl 2 (.tmp 5) rfl w.heap.size 0 rfl 1 (fun _ => .int .i64 (sumR R k)) _ _ Tryd.underlying2 rfl SB.out (by omega) ?_; simp only [Act.put, List.setIfInBounds_toArray, List.set_cons_succ, List.set_cons_zero]))
    have hlt := row_lt hd.out
    refine leaveM rfl hd.out (results_tmp rfl _ _ _) ?_
    exact ⟨k, Nat.le_refl _, rfl, grown_row_any hg (grownBy_putObj' W D _) (fun r e => by cases e; omega), .inl ⟨rfl, HS.out k W _ (some D) hs (grownBy_putObj' W D _) (fun r e => by cases e; omega)⟩⟩
  case stop =>
    rintro D c W hD ⟨rfl, k, h1, h2, hs, hsb, hg⟩ hd
    have SB := Go.Lib.hid hsb
    replace hd := Go.Lib.hid hd
    go_wp2_with (first
      | go_skip
      | ((with_reducible refine wlAt 16 rfl ?_); refine wpList_load1 rfl 2 (.tmp 5) rfl w.heap.size 0 rfl 1 (fun _ => .int .i64 (sumR R k)) _ _ Tryd.underlying2 rfl SB.out (by omega) ?_; simp only [Act.put, List.setIfInBounds_toArray, List.set_cons_succ, List.set_cons_zero]))
    have hlt := row_lt hd.out
    refine leaveM rfl hd.out (results_tmp rfl _ _ _) ?_
    exact ⟨k, by omega, rfl, grown_row_any hg (grownBy_putObj' W D _) (fun r e => by cases e; omega), .inr ⟨h1, h2, HS.out (k + 1) W _ (some D) hs (grownBy_putObj' W D _) (fun r e => by cases e; omega)⟩⟩
end Go.Proofs.YtgbhchmpeioaiaaDoor
