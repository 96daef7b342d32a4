import Derived.Test.YtianedkknlggmaaOkEq
namespace Go.Proofs.Ytianedkknlggmaa
open Go.RowKit
set_option maxRecDepth 100000
set_option linter.unusedVariables false
attribute [local go_sem] Oper.semAt_some
def wsum (s : Sh) : Nat → Int
  | 0 => 0
  | i + 1 => wsum s i + s.wet i
theorem wsum_bd (s : Sh) (hf : s.fit) : ∀ i : Nat, i ≤ 64 → -32768 * (i : Int) ≤ wsum s i ∧ wsum s i ≤ 32767 * (i : Int)
  | 0, _ => by simp [wsum]
  | i + 1, hi => by
    have := wsum_bd s hf i (by omega)
    have := hf.wet i (by omega)
    simp only [wsum]; omega
def psumL (s : Sh) (l : List Sp8) : Int := l.foldl (fun n p => n + s.wet (8 * p.1.2 + p.1.1)) 0
theorem psumL_app (s : Sh) (l : List Sp8) (p : Sp8) : psumL s (l ++ [p]) = psumL s l + s.wet (8 * p.1.2 + p.1.1) := by simp [psumL, List.foldl_append]
theorem psum_from (s : Sh) (l : List Sp8) : ∀ n : Int, l.foldl (fun n p => n + s.wet (8 * p.1.2 + p.1.1)) n = n + psumL s l := by
  induction l with
  | nil => intro n; simp [psumL]
  | cons p l ih => intro n; simp only [List.foldl_cons, psumL]; rw [ih, ih]; omega
theorem psumL_cat (s : Sh) (l m : List Sp8) : psumL s (l ++ m) = psumL s l + psumL s m := by
  rw [show psumL s (l ++ m) = m.foldl (fun n p => n + s.wet (8 * p.1.2 + p.1.1)) (psumL s l) by simp [psumL, List.foldl_append], psum_from]
theorem psumL_bd (s : Sh) (hf : s.fit) : ∀ l : List Sp8, -32768 * (l.length : Int) ≤ psumL s l ∧ psumL s l ≤ 32767 * (l.length : Int)
  | [] => by simp [psumL]
  | p :: l => by
    have := psumL_bd s hf l
    obtain ⟨⟨x, y⟩, hx, hy⟩ := p
    have := hf.wet (8 * y + x) (by simp at hx hy; omega)
    rw [show psumL s (⟨(x, y), hx, hy⟩ :: l) = s.wet (8 * y + x) + psumL s l by simp only [psumL, List.foldl_cons]; rw [psum_from]; simp [psumL]]
    simp only [List.length_cons]
    omega
theorem row_sum (s : Sh) (y : Nat) (hy : y < 8) : ∀ a, a ≤ 8 → wsum s (8 * y + a) = wsum s (8 * y) + psumL s (rowOf a y)
  | 0, _ => by simp [rowOf, psumL]
  | a + 1, ha => by
    have h := row_sum s y hy a (by omega)
    have e := mk8_x (show a < 8 by omega) hy
    rw [rowOf_succ, psumL_app, e]
    show wsum s (8 * y + a) + s.wet (8 * y + a) = wsum s (8 * y) + (psumL s (rowOf a y) + s.wet (8 * y + a))
    omega
theorem row_zero (s : Sh) (y a : Nat) (hz : ∀ x, a ≤ x → x < 8 → s.wet (8 * y + x) = 0) : ∀ m, a + m ≤ 8 → wsum s (8 * y + (a + m)) = wsum s (8 * y + a)
  | 0, _ => rfl
  | m + 1, hm => by
    have h := row_zero s y a hz m (by omega)
    have h2 := hz (a + m) (by omega) (by omega)
    show wsum s (8 * y + (a + m)) + s.wet (8 * y + (a + m)) = _
    omega
theorem grid_sum (s : Sh) (a : Nat) (ha : a ≤ 8) (hz : ∀ x y, y < 8 → a ≤ x → x < 8 → s.wet (8 * y + x) = 0) : ∀ c, c ≤ 8 → wsum s (8 * c) = psumL s (cellsL a c)
  | 0, _ => by simp [cellsL, psumL, wsum]
  | c + 1, hc => by
    have h := grid_sum s a ha hz c (by omega)
    have h1 := row_sum s c (by omega) a ha
    have h2 := row_zero s c a (fun x h1 h2 => hz x c (by omega) h1 h2) (8 - a) (by omega)
    rw [cellsL_succ, psumL_cat, show 8 * (c + 1) = 8 * c + (a + (8 - a)) by omega]
    omega
theorem rest_zero (s : Sh) (c : Nat) (hz : ∀ i, 8 * c ≤ i → i < 64 → s.wet i = 0) : ∀ m, 8 * c + m ≤ 64 → wsum s (8 * c + m) = wsum s (8 * c)
  | 0, _ => rfl
  | m + 1, hm => by
    have h := rest_zero s c hz m (by omega)
    have h2 := hz (8 * c + m) (by omega) (by omega)
    show wsum s (8 * c + m) + s.wet (8 * c + m) = _
    omega
theorem valid_at (s : Sh) (hv : okI s = true) (x y : Nat) (hx : x < 8) (hy : y < 8) : validB s x y = true := by
  simp only [okI, Bool.and_eq_true, List.all_eq_true] at hv
  exact hv.2.2 ⟨(x, y), hx, hy⟩ (mem_cells _)
theorem dry_out (s : Sh) (hv : okI s = true) (x y : Nat) (hx : x < 8) (hy : y < 8) (h : (s.wide ≤ x ∨ s.high ≤ y)) : s.wet (8 * y + x) = 0 := by
  have h1 := valid_at s hv x y hx hy
  have h2 : hasB s x y = false := by simp [hasB]; omega
  unfold validB at h1
  rw [h2] at h1
  simp [bareB] at h1
  exact h1.1.1
theorem water_eq (s : Sh) (hv : okI s = true) : psumL s (cellsL s.wide.toNat s.high.toNat) = wsum s 64 := by
  have h := hv
  simp only [okI, Bool.and_eq_true, decide_eq_true_eq] at h
  have g := grid_sum s s.wide.toNat (by omega) (fun x y hy h1 h2 => dry_out s hv x y h2 hy (by omega)) s.high.toNat (by omega)
  have r := rest_zero s s.high.toNat (fun i h1 h2 => by
    have := dry_out s hv (i % 8) (i / 8) (by omega) (by omega) (Or.inr (by omega))
    rwa [show 8 * (i / 8) + i % 8 = i by omega] at this) (64 - 8 * s.high.toNat) (by omega)
  rw [show 8 * s.high.toNat + (64 - 8 * s.high.toNat) = 64 by omega] at r
  omega
theorem ok_bounds (s : Sh) (hv : okI s = true) (x y : Nat) (hx : x < 8) (hy : y < 8) : (0 ≤ s.wet (8 * y + x) ∧ s.wet (8 * y + x) ≤ 200) ∧ (0 ≤ s.dye (24 * y + 3 * x) ∧ s.dye (24 * y + 3 * x) ≤ 1000) ∧ (0 ≤ s.dye (24 * y + 3 * x + 1) ∧ s.dye (24 * y + 3 * x + 1) ≤ 1000) ∧ (0 ≤ s.dye (24 * y + 3 * x + 2) ∧ s.dye (24 * y + 3 * x + 2) ≤ 1000) := by
  simp only [okI, Bool.and_eq_true, List.all_eq_true] at hv
  have h : validB s x y = true := hv.2.2 ⟨(x, y), hx, hy⟩ (mem_cells _)
  unfold validB at h
  split at h
  · split at h
    · simp [bareB] at h; omega
    · simp [dOk, wOk] at h; omega
  · simp [bareB] at h; omega
theorem clear_out (s : Sh) (hv : okI s = true) (x y : Nat) (hx : x < 8) (hy : y < 8) (h : (s.wide ≤ x ∨ s.high ≤ y)) (i : Nat) (hi : i < 3) : s.dye (24 * y + 3 * x + i) = 0 := by
  have h1 := valid_at s hv x y hx hy
  have h2 : hasB s x y = false := by simp [hasB]; omega
  unfold validB at h1
  rw [h2] at h1
  simp [bareB] at h1
  obtain ⟨⟨_, a, b, c⟩, _⟩ := h1
  have : i = 0 ∨ i = 1 ∨ i = 2 := by omega
  rcases this with rfl | rfl | rfl <;> assumption
theorem wpListIn_valued {r n : Nat} {P : Program} {ops : Array Oper} {Q : Exit → Act → World → Prop} {rest : List Oper} {o : Oper} {a : Act} {w w' : World} {v : Value} (hgd : o.guard = none) (hd : ∀ c, o.op ≠ .defer c)
    (hrun : (execOp a.eval o).run P w = .ok (.value v) w') (h : wpListIn (Fence.wide.inRound r) n P ops Q rest (a.put o.dst v) w') : wpListIn (Fence.wide.inRound r) n P ops Q (o :: rest) a w := by
  refine wpListIn_plain hgd fun K hK => ⟨fun _ _ => trivial, ?_⟩
  show o.uponIn _ n P a K Q ((o.semAt (some r) a.eval).run P w)
  rw [Oper.semAt_eq _ _ _ hd, hrun]
  exact hK _ _ h
/-- LOAD of one cell, in a round. -/
theorem wpListIn_load1 {r n' : Nat} {P : Program} {ops : Array Oper} {rest : List Oper} {o : Oper} {a : Act} {w : World} {Q : Exit → Act → World → Prop} (hgd : o.guard = none) (ty : TypeId) (x : Operand) (ho : o.op = .load ty x)
    (b off : Nat) (hx : a.eval x = .pointer (some ⟨b, off, none⟩)) (n : Nat) (f : Nat → Value) (t : TypeId) (d : TypeDesc) (hu : P.underlying ty = some d) (hd : d.isRow = false)
    (hg : w.heap[b]? = some (.cells (vrow n f) t)) (hb : off < n)
    (h : wpListIn (Fence.wide.inRound r) n' P ops Q rest (a.put o.dst (f off)) w) : wpListIn (Fence.wide.inRound r) n' P ops Q (o :: rest) a w := by
  have hc := cell_row hg hb
  have hr : (Instr.loadAt ty (.pointer (some ⟨b, off, none⟩))).run P w = .ok (f off) w := by
    simp only [Instr.loadAt, Instr.sureAddr, Sem.run_bind, Sem.run_pure, Result.andThen_ok, loadVar, run_isAgg_row w ty d hu, hd, Bool.false_eq_true, if_false, run_load, hc]
  exact wpListIn_valued hgd (fun c hc => by rw [ho] at hc; cases hc) (by unfold execOp; simp only [ho, hx, Sem.run_bind, hr, Result.andThen_ok, Sem.run_pure]) h
theorem own_rowD {β : Type} {B b : Nat} {o : β → Obj} (hb : b < B) : OwnFrom B (fun (s : β) W => W.heap[b]? = some (o s)) := fun _ W W' row hs hg hr =>
  (hg.block b (row_lt hs) (fun e => by have := (hr b e.symm).1; omega)).trans hs
theorem wrap2 (p q : Int) (h1 : -4000000 ≤ p ∧ p ≤ 4000000) (h2 : -32768 ≤ q ∧ q ≤ 32767) : Value.int .i64 (IntKind.i64.wrap (p + IntKind.i64.wrap q)) = Value.int .i64 (p + q) := by rw [IntWalk.i64_in q (by omega), IntWalk.i64_in (p + q) (by omega)]
theorem size_i64 : (Try.prog.info? 2).map (·.size) = some 1 := by kernel_rfl
def ad (a b : Sh) (n : Nat) : Int := if b.dye n ≤ a.dye n then a.dye n - b.dye n else b.dye n - a.dye n
def tri (a b : Sh) (c : Nat) : Nat → Int
  | 0 => 0
  | i + 1 => tri a b c i + ad a b (3 * c + i)
def dif (a b : Sh) : Sh := { a with wet := fun c => tri a b c 3 }
theorem ad_bd (a b : Sh) (ha : a.fit) (hb : b.fit) (n : Nat) (hn : n < 192) : 0 ≤ ad a b n ∧ ad a b n ≤ 65535 := by
  have := ha.dye n hn
  have := hb.dye n hn
  unfold ad; split <;> omega
theorem tri_bd (a b : Sh) (ha : a.fit) (hb : b.fit) (c : Nat) (hc : c < 64) : ∀ i : Nat, i ≤ 3 → 0 ≤ tri a b c i ∧ tri a b c i ≤ 65535 * (i : Int)
  | 0, _ => by simp [tri]
  | i + 1, hi => by
    have := tri_bd a b ha hb c hc i (by omega)
    have := ad_bd a b ha hb (3 * c + i) (by omega)
    simp only [tri]; omega
theorem wdif_bd (a b : Sh) (ha : a.fit) (hb : b.fit) : ∀ c : Nat, c ≤ 64 → 0 ≤ wsum (dif a b) c ∧ wsum (dif a b) c ≤ 196605 * (c : Int)
  | 0, _ => by simp [wsum]
  | c + 1, hc => by
    have := wdif_bd a b ha hb c (by omega)
    have h2 := tri_bd a b ha hb c (by omega) 3 (by omega)
    have h3 : (dif a b).wet c = tri a b c 3 := rfl
    simp only [wsum]; omega
theorem pdif_bd (a b : Sh) (ha : a.fit) (hb : b.fit) (l : List Sp8) : 0 ≤ psumL (dif a b) l ∧ psumL (dif a b) l ≤ 196605 * (l.length : Int) := by
  induction l with
  | nil => simp [psumL]
  | cons p l ih =>
    obtain ⟨⟨x, y⟩, hx, hy⟩ := p
    have := tri_bd a b ha hb (8 * y + x) (by simp at hx hy; omega) 3 (by omega)
    rw [show psumL (dif a b) (⟨(x, y), hx, hy⟩ :: l) = tri a b (8 * y + x) 3 + psumL (dif a b) l by simp only [psumL, List.foldl_cons]; rw [psum_from]; simp [psumL, dif]]
    simp only [List.length_cons]
    omega
theorem ad_zero (a b : Sh) (n : Nat) (h1 : a.dye n = 0) (h2 : b.dye n = 0) : ad a b n = 0 := by simp [ad, h1, h2]
theorem dif_eq (a b : Sh) (hva : okI a = true) (hvb : okI b = true) (hw : a.wide = b.wide) (hh : a.high = b.high) : psumL (dif a b) (cellsL a.wide.toNat a.high.toNat) = wsum (dif a b) 64 := by
  have h := hva
  simp only [okI, Bool.and_eq_true, decide_eq_true_eq] at h
  have z : ∀ x y : Nat, x < 8 → y < 8 → (a.wide ≤ x ∨ a.high ≤ y) → tri a b (8 * y + x) 3 = 0 := by
    intro x y hx hy hxy
    have q : ∀ i, i < 3 → ad a b (3 * (8 * y + x) + i) = 0 := fun i hi => by
      have e : 3 * (8 * y + x) + i = 24 * y + 3 * x + i := by omega
      rw [e]
      exact ad_zero a b _ (clear_out a hva x y hx hy hxy i hi) (clear_out b hvb x y hx hy (by omega) i hi)
    simp [tri, q 1 (by omega), q 2 (by omega)]
    have := q 0 (by omega)
    simpa using this
  have g := grid_sum (dif a b) a.wide.toNat (by omega) (fun x y hy h1 h2 => z x y h2 hy (by omega)) a.high.toNat (by omega)
  have r := rest_zero (dif a b) a.high.toNat (fun c h1 h2 => by
    have := z (c % 8) (c / 8) (by omega) (by omega) (Or.inr (by omega))
    rwa [show 8 * (c / 8) + c % 8 = c by omega] at this) (64 - 8 * a.high.toNat) (by omega)
  rw [show 8 * a.high.toNat + (64 - 8 * a.high.toNat) = 64 by omega] at r
  omega
theorem lmax_any (a b : Int) (w : World) : Calls Try.prog 116 #[.int .i64 a, .int .i64 b] w fun e w' => e = .returned (.int .i64 (max a b)) ∧ Below w.heap.size w w' := by
  by_cases h : b < a
  · have hm : max a b = a := by omega
    go_enter Try.func116, Try.ntmps116
    go_wp2
    go_ret
    exact ⟨by first | rfl | (rw [hm]; rfl), Below.refl _ _⟩
  · have hm : max a b = b := by omega
    go_enter Try.func116, Try.ntmps116
    go_wp2
    go_ret
    exact ⟨by first | rfl | (rw [hm]; rfl), Below.refl _ _⟩
theorem lsize0 (x y : Int) (hx : -32768 ≤ x ∧ x ≤ 32767) (hy : -32768 ≤ y ∧ y ≤ 32767) (w : World) : Calls Try.prog 100 #[.int .i64 (x - y)] w fun e w' => e = .returned (.int .i64 (max (x - y) (-(x - y)))) ∧ Below w.heap.size w w' := by
  have hn : IntKind.i64.wrap (-(x - y)) = -(x - y) := IntWalk.i64_in _ (by omega)
  have hB := Go.Lib.hid (Below.refl w.heap.size w)
  have HM := Go.Lib.hid fun w => lmax_any (x - y) (-(x - y)) w
  go_enter Try.func100, Try.ntmps100
  go_wp2_with (go_at_call 116; refine (HM.out _).mono ?_; rintro o w1 ⟨rfl, hb⟩; replace hB := Go.Lib.hid (below_next hB.out hb); clear hb)
  go_ret
  exact ⟨rfl, hB.out⟩
theorem lsize_any (x y : Int) (hx : -32768 ≤ x ∧ x ≤ 32767) (hy : -32768 ≤ y ∧ y ≤ 32767) (w : World) : Calls Try.prog 100 #[.int .i64 (x - y)] w fun e w' => e = .returned (.int .i64 (if y ≤ x then x - y else y - x)) ∧ Below w.heap.size w w' := by
  have h := lsize0 x y hx hy w
  rwa [show max (x - y) (-(x - y)) = (if y ≤ x then x - y else y - x) by split <;> omega] at h
set_option maxHeartbeats 2000000 in
theorem ldiffer_any (a b : Sh) (b1 b2 : Nat) (w : World) (hs1 : w.heap[b1]? = some (.cells a.row 33)) (hs2 : w.heap[b2]? = some (.cells b.row 33)) (ha : a.fit) (hb : b.fit) : Calls Try.prog 65 #[.pointer (some ⟨b1, 0, none⟩), .pointer (some ⟨b2, 0, none⟩)] w fun e w' => e = .returned (.int .i64 (wsum (dif a b) 64)) ∧ Below w.heap.size w w' := by
  have hB := Go.Lib.hid (Below.refl w.heap.size w)
  have P := Go.Lib.hid hs1
  have R := Go.Lib.hid hs2
  clear hs1 hs2
  go_enter Try.func65, Try.ntmps65
  go_wp2
  go_loopw [5, 6] (fun sm y wr => ∃ k : Nat, k ≤ 8 ∧ y = .int .i64 k ∧ sm = .int .i64 (wsum (dif a b) (8 * k)) ∧ Below w.heap.size w wr ∧ wr.heap[b1]? = some (.cells (vrow 266 a.at) 33) ∧ wr.heap[b2]? = some (.cells (vrow 266 b.at) 33)) (fun _ y _ => 8 - (intOf y).toNat)
  case atStart => exact ⟨0, by omega, rfl, rfl, hB.out, P.out, R.out⟩
  case round =>
    clear hB P R
    obtain ⟨k, hk, rfl, rfl, hB, P, R⟩ := hrel
    replace hB := Go.Lib.hid hB; replace P := Go.Lib.hid P; replace R := Go.Lib.hid R
    by_cases hlt : k < 8
    · have hdk : decide ((k : Int) < 8) = true := by simp; omega
      go_wp2
      obtain ⟨wo, hwo⟩ : ∃ wo : World, wo = wr := ⟨_, rfl⟩
      rw [← hwo] at hB P R ⊢
      clear hwo wr
      go_loopw [5, 7] (fun sm x wr => ∃ j : Nat, j ≤ 8 ∧ x = .int .i64 j ∧ sm = .int .i64 (wsum (dif a b) (8 * k + j)) ∧ Below w.heap.size w wr ∧ wr.heap[b1]? = some (.cells (vrow 266 a.at) 33) ∧ wr.heap[b2]? = some (.cells (vrow 266 b.at) 33)) (fun _ x _ => 8 - (intOf x).toNat)
      case atStart => exact ⟨0, by omega, rfl, rfl, hB.out, P.out, R.out⟩
      case round =>
        clear hB P R
        obtain ⟨j, hj, rfl, rfl, hB, P, R⟩ := hrel
        replace hB := Go.Lib.hid hB; replace P := Go.Lib.hid P; replace R := Go.Lib.hid R
        by_cases hlj : j < 8
        · have hdj : decide ((j : Int) < 8) = true := by simp; omega
          go_wp2
          obtain ⟨wo2, hwo⟩ : ∃ wo2 : World, wo2 = wr := ⟨_, rfl⟩
          rw [← hwo] at hB P R ⊢
          clear hwo wr
          go_loopw [5, 8] (fun sm z wr => ∃ i : Nat, i ≤ 3 ∧ z = .int .i64 i ∧ sm = .int .i64 (wsum (dif a b) (8 * k + j) + tri a b (8 * k + j) i) ∧ Below w.heap.size w wr ∧ wr.heap[b1]? = some (.cells (vrow 266 a.at) 33) ∧ wr.heap[b2]? = some (.cells (vrow 266 b.at) 33)) (fun _ z _ => 3 - (intOf z).toNat)
          case atStart => exact ⟨0, by omega, rfl, by simp [tri], hB.out, P.out, R.out⟩
          case round =>
            clear hB P R
            obtain ⟨i, hi, rfl, rfl, hB, P, R⟩ := hrel
            replace hB := Go.Lib.hid hB; replace P := Go.Lib.hid P; replace R := Go.Lib.hid R
            obtain ⟨g3, g4⟩ := wdif_bd a b ha hb (8 * k + j) (by omega)
            obtain ⟨g5, g6⟩ := tri_bd a b ha hb (8 * k + j) (by omega) i hi
            by_cases hli : i < 3
            · obtain ⟨g1, g2⟩ := ha.dye (3 * (8 * k + j) + i) (by omega)
              obtain ⟨g7, g8⟩ := hb.dye (3 * (8 * k + j) + i) (by omega)
              obtain ⟨q1, q2⟩ := ad_bd a b ha hb (3 * (8 * k + j) + i) (by omega)
              have hxI : (j : Int) < 8 := by omega
              have hyI : (k : Int) < 8 := by omega
              have hzI : (i : Int) < 3 := by omega
              have hs1 : IntKind.i64.wrap (a.dye (3 * (8 * k + j) + i) - b.dye (3 * (8 * k + j) + i)) = a.dye (3 * (8 * k + j) + i) - b.dye (3 * (8 * k + j) + i) := IntWalk.i64_in _ (by omega)
              have hs2 : IntKind.i64.wrap (wsum (dif a b) (8 * k + j) + tri a b (8 * k + j) i + ad a b (3 * (8 * k + j) + i)) = wsum (dif a b) (8 * k + j) + tri a b (8 * k + j) i + ad a b (3 * (8 * k + j) + i) := IntWalk.i64_in _ (by omega)
              have hs3 : IntKind.i64.wrap (a.dye (3 * (8 * k + j) + i)) = a.dye (3 * (8 * k + j) + i) := IntWalk.i64_in _ (by omega)
              have hs4 : IntKind.i64.wrap (b.dye (3 * (8 * k + j) + i)) = b.dye (3 * (8 * k + j) + i) := IntWalk.i64_in _ (by omega)
              have HA := Go.Lib.hid (show ∀ w, Calls Try.prog 100 #[.int .i64 (a.dye (3 * (8 * k + j) + i) - b.dye (3 * (8 * k + j) + i))] w fun e w' => e = .returned (.int .i64 (ad a b (3 * (8 * k + j) + i))) ∧ Below w.heap.size w w' from fun w => lsize_any _ _ (by omega) (by omega) w)
              go_wp2
              (refine region_at (by kernel_rfl) (by kernel_rfl) ?_; intro W hW; rw [hW] at hB P R; clear hW; have P' := Go.Lib.hid (cls_row' P.out); have R' := Go.Lib.hid (cls_row' R.out); (repeat (first | go_big_quiet_skip | (refine wpQuiet_load1 23 _ rfl (by first | exact want_n rfl | exact want_g _ _ _ rfl rfl rfl) b1 _ rfl 266 a.at _ rw_i16 P'.out (by omega) ?_; (first | rw [Sh.at_0] | rw [Sh.at_1] | rw [Sh.at_dye1 _ _ (3 * (8 * k + j) + i) (by omega) (by omega)]); simp only [Act.put, List.setIfInBounds_toArray, List.set_cons_succ, List.set_cons_zero]) | (refine wpQuiet_load1 23 _ rfl (by first | exact want_n rfl | exact want_g _ _ _ rfl rfl rfl) b2 _ rfl 266 b.at _ rw_i16 R'.out (by omega) ?_; (first | rw [Sh.at_0] | rw [Sh.at_1] | rw [Sh.at_dye1 _ _ (3 * (8 * k + j) + i) (by omega) (by omega)]); simp only [Act.put, List.setIfInBounds_toArray, List.set_cons_succ, List.set_cons_zero]) | go_big_quiet_step ((go_at_call 100; exact cls_call _ (fun w hw => HA.out w))))); refine wpQuiet_nil ?_; intro Wn hb; replace P := Go.Lib.hid (row_next hb P.out); replace R := Go.Lib.hid (row_next hb R.out); replace hB := Go.Lib.hid (below_next hB.out hb); clear hb P' R')
              go_wp2
              go_roundw
              case rel => exact ⟨i + 1, by omega, by go_num, by first | (show _ = Value.int .i64 (wsum (dif a b) (8 * k + j) + (tri a b (8 * k + j) i + ad a b (3 * (8 * k + j) + i))); refine congrArg _ ?_; omega) | (simp only [tri]; go_num), hB.out, P.out, R.out⟩
              case measure => simp [intOf]; omega
            · obtain rfl : i = 3 := by omega
              go_wp2
              go_roundw
              case rel => exact ⟨j + 1, by omega, by go_num, rfl, hB.out, P.out, R.out⟩
              case measure => simp [intOf]; omega
        · obtain rfl : j = 8 := by omega
          go_wp2
          go_roundw
          case rel => exact ⟨k + 1, by omega, by go_num, rfl, hB.out, P.out, R.out⟩
          case measure => simp [intOf]; omega
    · obtain rfl : k = 8 := by omega
      go_wp2
      go_ret
      exact ⟨rfl, hB.out⟩
end Go.Proofs.Ytianedkknlggmaa
