import Derived.Test.YtfhfiaphdgfmnaaDoorBr
namespace Go.Proofs.YtfhfiaphdgfmnaaDoor
open Go.RowKit
set_option maxRecDepth 100000
set_option linter.unusedVariables false
def wsum (s : Sh) : Nat → Int
  | 0 => 0
  | i + 1 => wsum s i + s.wet i
theorem wsum_bd (s : Sh) (hf : s.fit) : ∀ i : Nat, i ≤ 64 → -32768 * (i : Int) ≤ wsum s i ∧ wsum s i ≤ 32767 * (i : Int)
  | 0, _ => by simp [wsum]
  | i + 1, hi => by
    have := wsum_bd s hf i (by omega)
    have := hf.wet i (by omega)
    simp only [wsum]; omega
def psumL (s : Sh) (l : List Sp8) : Int := l.foldl (fun n p => n + s.wet (8 * p.1.2 + p.1.1)) 0
theorem psumL_app (s : Sh) (l : List Sp8) (p : Sp8) : psumL s (l ++ [p]) = psumL s l + s.wet (8 * p.1.2 + p.1.1) := by simp [psumL, List.foldl_append]
theorem psum_from (s : Sh) (l : List Sp8) : ∀ n : Int, l.foldl (fun n p => n + s.wet (8 * p.1.2 + p.1.1)) n = n + psumL s l := by
  induction l with
  | nil => intro n; simp [psumL]
  | cons p l ih => intro n; simp only [List.foldl_cons, psumL]; rw [ih, ih]; omega
theorem psumL_cat (s : Sh) (l m : List Sp8) : psumL s (l ++ m) = psumL s l + psumL s m := by
  rw [show psumL s (l ++ m) = m.foldl (fun n p => n + s.wet (8 * p.1.2 + p.1.1)) (psumL s l) by simp [psumL, List.foldl_append], psum_from]
theorem psumL_bd (s : Sh) (hf : s.fit) : ∀ l : List Sp8, -32768 * (l.length : Int) ≤ psumL s l ∧ psumL s l ≤ 32767 * (l.length : Int)
  | [] => by simp [psumL]
  | p :: l => by
    have := psumL_bd s hf l
    obtain ⟨⟨x, y⟩, hx, hy⟩ := p
    have := hf.wet (8 * y + x) (by simp at hx hy; omega)
    rw [show psumL s (⟨(x, y), hx, hy⟩ :: l) = s.wet (8 * y + x) + psumL s l by simp only [psumL, List.foldl_cons]; rw [psum_from]; simp [psumL]]
    simp only [List.length_cons]
    omega
theorem row_sum (s : Sh) (y : Nat) (hy : y < 8) : ∀ a, a ≤ 8 → wsum s (8 * y + a) = wsum s (8 * y) + psumL s (rowOf a y)
  | 0, _ => by simp [rowOf, psumL]
  | a + 1, ha => by
    have h := row_sum s y hy a (by omega)
    have e := mk8_x (show a < 8 by omega) hy
    rw [rowOf_succ, psumL_app, e]
    show wsum s (8 * y + a) + s.wet (8 * y + a) = wsum s (8 * y) + (psumL s (rowOf a y) + s.wet (8 * y + a))
    omega
theorem row_zero (s : Sh) (y a : Nat) (hz : ∀ x, a ≤ x → x < 8 → s.wet (8 * y + x) = 0) : ∀ m, a + m ≤ 8 → wsum s (8 * y + (a + m)) = wsum s (8 * y + a)
  | 0, _ => rfl
  | m + 1, hm => by
    have h := row_zero s y a hz m (by omega)
    have h2 := hz (a + m) (by omega) (by omega)
    show wsum s (8 * y + (a + m)) + s.wet (8 * y + (a + m)) = _
    omega
theorem grid_sum (s : Sh) (a : Nat) (ha : a ≤ 8) (hz : ∀ x y, y < 8 → a ≤ x → x < 8 → s.wet (8 * y + x) = 0) : ∀ c, c ≤ 8 → wsum s (8 * c) = psumL s (cellsL a c)
  | 0, _ => by simp [cellsL, psumL, wsum]
  | c + 1, hc => by
    have h := grid_sum s a ha hz c (by omega)
    have h1 := row_sum s c (by omega) a ha
    have h2 := row_zero s c a (fun x h1 h2 => hz x c (by omega) h1 h2) (8 - a) (by omega)
    rw [cellsL_succ, psumL_cat, show 8 * (c + 1) = 8 * c + (a + (8 - a)) by omega]
    omega
theorem rest_zero (s : Sh) (c : Nat) (hz : ∀ i, 8 * c ≤ i → i < 64 → s.wet i = 0) : ∀ m, 8 * c + m ≤ 64 → wsum s (8 * c + m) = wsum s (8 * c)
  | 0, _ => rfl
  | m + 1, hm => by
    have h := rest_zero s c hz m (by omega)
    have h2 := hz (8 * c + m) (by omega) (by omega)
    show wsum s (8 * c + m) + s.wet (8 * c + m) = _
    omega
theorem valid_at (s : Sh) (hv : okI s = true) (x y : Nat) (hx : x < 8) (hy : y < 8) : validB s x y = true := by
  simp only [okI, Bool.and_eq_true, List.all_eq_true] at hv
  exact hv.2.2 ⟨(x, y), hx, hy⟩ (mem_cells _)
theorem dry_out (s : Sh) (hv : okI s = true) (x y : Nat) (hx : x < 8) (hy : y < 8) (h : (s.wide ≤ x ∨ s.high ≤ y)) : s.wet (8 * y + x) = 0 := by
  have h1 := valid_at s hv x y hx hy
  have h2 : hasB s x y = false := by simp [hasB]; omega
  unfold validB at h1
  rw [h2] at h1
  simp [bareB] at h1
  exact h1.1.1
theorem water_eq (s : Sh) (hv : okI s = true) : psumL s (cellsL s.wide.toNat s.high.toNat) = wsum s 64 := by
  have h := hv
  simp only [okI, Bool.and_eq_true, decide_eq_true_eq] at h
  have g := grid_sum s s.wide.toNat (by omega) (fun x y hy h1 h2 => dry_out s hv x y h2 hy (by omega)) s.high.toNat (by omega)
  have r := rest_zero s s.high.toNat (fun i h1 h2 => by
    have := dry_out s hv (i % 8) (i / 8) (by omega) (by omega) (Or.inr (by omega))
    rwa [show 8 * (i / 8) + i % 8 = i by omega] at this) (64 - 8 * s.high.toNat) (by omega)
  rw [show 8 * s.high.toNat + (64 - 8 * s.high.toNat) = 64 by omega] at r
  omega
theorem size_i64 : (Tryd.prog.info? 2).map (·.size) = some 1 := by kernel_rfl
set_option maxHeartbeats 1000000 in
theorem lwater_any (s : Sh) (b : Nat) (w : World) (hs : w.heap[b]? = some (.cells s.row 39)) (hf : s.fit) : Calls Tryd.prog 66 #[.pointer (some ⟨b, 0, none⟩)] w fun e w' => e = .returned (.int .i64 (wsum s 64)) ∧ Below w.heap.size w w' := by
  have hB := Go.Lib.hid (Below.refl w.heap.size w)
  have P := Go.Lib.hid hs
  clear hs
  go_enter Tryd.func66, Tryd.ntmps66
  go_wp2
  go_loopw [3, 4] (fun sm y wr => ∃ k : Nat, k ≤ 8 ∧ y = .int .i64 k ∧ sm = .int .i64 (wsum s (8 * k)) ∧ Below w.heap.size w wr ∧ wr.heap[b]? = some (.cells (vrow 266 s.at) 39)) (fun _ y _ => 8 - (intOf y).toNat)
  case atStart => exact ⟨0, by omega, rfl, rfl, hB.out, P.out⟩
  case round =>
    clear hB P
    obtain ⟨k, hk, rfl, rfl, hB, P⟩ := hrel
    replace hB := Go.Lib.hid hB; replace P := Go.Lib.hid P
    by_cases hlt : k < 8
    · have hdk : decide ((k : Int) < 8) = true := by simp; omega
      go_wp2
      obtain ⟨wo, hwo⟩ : ∃ wo : World, wo = wr := ⟨_, rfl⟩
      rw [← hwo] at hB P ⊢
      clear hwo wr
      go_loopw [3, 5] (fun sm x wr => ∃ j : Nat, j ≤ 8 ∧ x = .int .i64 j ∧ sm = .int .i64 (wsum s (8 * k + j)) ∧ Below w.heap.size w wr ∧ wr.heap[b]? = some (.cells (vrow 266 s.at) 39)) (fun _ x _ => 8 - (intOf x).toNat)
      case atStart => exact ⟨0, by omega, rfl, rfl, hB.out, P.out⟩
      case round =>
        clear hB P
        obtain ⟨j, hj, rfl, rfl, hB, P⟩ := hrel
        replace hB := Go.Lib.hid hB; replace P := Go.Lib.hid P
        by_cases hlj : j < 8
        · obtain ⟨g1, g2⟩ := hf.wet (8 * k + j) (by omega)
          obtain ⟨g3, g4⟩ := wsum_bd s hf (8 * k + j) (by omega)
          have hxI : (j : Int) < 8 := by omega
          have hyI : (k : Int) < 8 := by omega
          go_wp2_with (first
            | (refine list_at 22 rfl ?_; intro W hW; rw [hW] at hB P; clear hW; have P' := Go.Lib.hid (cls_row' P.out); (repeat (first | go_big_quiet_skip | (refine wpQuiet_load1 24 _ rfl (by first | exact want_n rfl | exact want_g _ _ _ rfl rfl rfl) b _ rfl 266 s.at _ rw_i16 P'.out (by omega) ?_; (first | rw [Sh.at_wet1 _ _ (8 * k + j) (by omega) (by omega)]); simp only [Act.put, List.setIfInBounds_toArray, List.set_cons_succ, List.set_cons_zero]) | go_big_quiet_step (fail))); refine wpQuiet_nil ?_; intro Wn hb; replace P := Go.Lib.hid (row_next hb P.out); replace hB := Go.Lib.hid (below_next hB.out hb); clear hb P'))
          go_roundw
          case rel => exact ⟨j + 1, by omega, by go_num, by first | rfl | (show _ = Value.int .i64 (wsum s (8 * k + j) + s.wet (8 * k + j)); go_num), hB.out, P.out⟩
          case measure => simp [intOf]; omega
        · obtain rfl : j = 8 := by omega
          go_wp2
          go_roundw
          case rel => exact ⟨k + 1, by omega, by go_num, rfl, hB.out, P.out⟩
          case measure => simp [intOf]; omega
    · obtain rfl : k = 8 := by omega
      go_wp2
      go_ret
      exact ⟨rfl, hB.out⟩
end Go.Proofs.YtfhfiaphdgfmnaaDoor
