import Derived.Deep.RegionHeld3
import Derived.Test.YtfhfiaphdgfmnaaDoorMkS
import Derived.Test.YtfhfiaphdgfmnaaDoorOwnK
namespace Go.Proofs.YtfhfiaphdgfmnaaDoor
open Go.RowKit
set_option maxRecDepth 100000
set_option linter.unusedVariables false
set_option linter.unusedSimpArgs false
theorem prwK_i8 : (Tryd.prog.underlying 23).map (·.isRow) = some false := by kernel_rfl
theorem prwK_u8 : (Tryd.prog.underlying 5).map (·.isRow) = some false := by kernel_rfl
/-- sheet j of a row bears its marks -/
def Mkd (f : Nat → Value) (j : Nat) : Prop := f (j * 266) = (.int .i8 (IntKind.i8.wrap (1 + 10 * (j : Int)))) ∧ f (j * 266 + 1) = (.int .i8 (IntKind.i8.wrap (1 + 10 * (j : Int) + 1))) ∧ ∀ m, m < 8 → f (j * 266 + 258 + m) = (.int .u8 (IntKind.u8.wrap (3 + 10 * (j : Int) + (m : Int))))
theorem over_at1 (f : Nat → Value) (o : Nat) (v : Value) : over f o 1 (fun _ => v) o = v := by unfold over; rw [if_pos (by omega)]
theorem over_ne1 (f : Nat → Value) (o i : Nat) (v : Value) (h : i ≠ o) : over f o 1 (fun _ => v) i = f i := by unfold over; rw [if_neg (by omega)]
theorem Mkd.over {f : Nat → Value} {j o : Nat} {v : Value} (h : Mkd f j) (ho : j * 266 + 266 ≤ o) : Mkd (over f o 1 (fun _ => v)) j :=
  ⟨by rw [over_ne1 _ _ _ _ (by omega)]; exact h.1, by rw [over_ne1 _ _ _ _ (by omega)]; exact h.2.1, fun m hm => by rw [over_ne1 _ _ _ _ (by omega)]; exact h.2.2 m hm⟩
set_option maxHeartbeats 4000000 in
theorem markR_any (D n cap N : Nat) (f : Nat → Value) (w : World) (hn : n ≤ 1048576) (hN : n * 266 ≤ N) (h1 : w.heap[D]? = some (.cells (vrow N f) 39)) : Calls Tryd.prog 17 #[.slice (some ⟨D, 0, none⟩) n cap, .int .i64 1] w fun e w' => e = .returned (.int .i64 (1 + 10 * (n : Int))) ∧ ∃ f', w' = w.setRow D (vrow N f') ∧ ∀ j, j < n → Mkd f' j := by
  go_enter Tryd.func17, Tryd.ntmps17
  go_wp2
  go_loopw [1, 5] (fun kv iv wr => ∃ j : Nat, j ≤ n ∧ iv = .int .i64 j ∧ kv = .int .i64 (1 + 10 * (j : Int)) ∧ ∃ f', wr = w.setRow D (vrow N f') ∧ ∀ i, i < j → Mkd f' i) (fun _ iv _ => n - (intOf iv).toNat)
  case atStart => exact ⟨0, by omega, rfl, rfl, f, (setRow_selfK h1).symm, fun i hi => absurd hi (by omega)⟩
  case round =>
    obtain ⟨j, hj, rfl, rfl, f1, rfl, hM⟩ := hrel
    have HM := Go.Lib.hid hM
    clear hM
    by_cases hlt : j < n
    · have hkI : (j : Int) < n := by omega
      have hnl : (n : Int) ≤ 1048576 := by omega
      have hw : ∀ m : Int, 0 ≤ m → m ≤ 40000000 → IntKind.i64.wrap m = m := fun m h1 h2 => IntWalk.i64_in m (by omega)
      have R := Go.Lib.hid (row_set h1 (vrow N f1))
      go_wp2_with (first
        | go_skip
        | ((with_reducible refine wlOp (.store 23 (.tmp 18) (.tmp 16)) rfl ?_); refine wpList_store1 rfl 23 (.tmp 18) (.tmp 16) rfl D (j * 266) rfl N _ _ rfl 39 size_i8k R.out (by omega) rfl ?_; rw [setRow_twiceK]; generalize hov : over _ _ _ _ = f2; replace R := Go.Lib.hid (row_set h1 (vrow N f2)); have H18 := Go.Lib.hid hov; clear hov)
        | ((with_reducible refine wlOp (.store 23 (.tmp 26) (.tmp 24)) rfl ?_); refine wpList_store1 rfl 23 (.tmp 26) (.tmp 24) rfl D (j * 266 + 1) rfl N _ _ rfl 39 size_i8k R.out (by omega) rfl ?_; rw [setRow_twiceK]; generalize hov : over _ _ _ _ = f2; replace R := Go.Lib.hid (row_set h1 (vrow N f2)); have H26 := Go.Lib.hid hov; clear hov))
      clear R
      go_loopw [1, 6] (fun kv mv wz => ∃ m : Nat, m ≤ 8 ∧ mv = .int .i64 m ∧ kv = .int .i64 (3 + 10 * (j : Int) + (m : Int)) ∧ ∃ f', wz = w.setRow D (vrow N f') ∧ (∀ i, i < j → Mkd f' i) ∧ f' (j * 266) = (.int .i8 (IntKind.i8.wrap (1 + 10 * (j : Int)))) ∧ f' (j * 266 + 1) = (.int .i8 (IntKind.i8.wrap (1 + 10 * (j : Int) + 1))) ∧ ∀ p, p < m → f' (j * 266 + 258 + p) = (.int .u8 (IntKind.u8.wrap (3 + 10 * (j : Int) + (p : Int))))) (fun _ mv _ => 8 - (intOf mv).toNat)
      case atStart => exact ⟨0, by omega, rfl, by go_num, _, rfl, fun i hi => by rw [← H26.out, ← H18.out]; exact ((HM.out i hi).over (by omega)).over (by omega), by rw [← H26.out, ← H18.out, over_ne1 _ _ _ _ (by omega), over_at1]; rfl, by rw [← H26.out, over_at1]; rfl, fun p hp => absurd hp (by omega)⟩
      case round =>
        clear H26 H18
        obtain ⟨m, hm, rfl, rfl, f3, rfl, hM3, hA3, hB3, hC3⟩ := hrel
        have HN := Go.Lib.hid (And.intro hM3 (And.intro hA3 (And.intro hB3 hC3)))
        clear hM3 hA3 hB3 hC3
        by_cases hlm : m < 8
        · have hmI : (m : Int) < 8 := by omega
          have R := Go.Lib.hid (row_set h1 (vrow N f3))
          go_wp2_with (first
            | go_skip
            | ((with_reducible refine wlOp (.store 5 (.tmp 40) (.tmp 37)) rfl ?_); refine wpList_store1 rfl 5 (.tmp 40) (.tmp 37) rfl D (j * 266 + 258 + m) rfl N _ _ rfl 39 size_u8k R.out (by omega) rfl ?_; rw [setRow_twiceK]; generalize hov : over _ _ _ _ = f2; replace R := Go.Lib.hid (row_set h1 (vrow N f2)); have H40 := Go.Lib.hid hov; clear hov))
          go_roundw
          case rel =>
            obtain ⟨hM3, hA3, hB3, hC3⟩ := HN.out
            refine ⟨m + 1, by omega, by go_num, by go_num, _, rfl, fun i hi => ?_, ?_, ?_, fun p hp => ?_⟩
            · rw [← H40.out]; exact (hM3 i hi).over (by omega)
            · rw [← H40.out, over_ne1 _ _ _ _ (by omega)]; exact hA3
            · rw [← H40.out, over_ne1 _ _ _ _ (by omega)]; exact hB3
            · rw [← H40.out]
              by_cases hp2 : p = m
              · subst hp2; rw [over_at1]; rfl
              · rw [over_ne1 _ _ _ _ (by omega)]; exact hC3 p (by omega)
          case measure => simp [intOf]; omega
        · obtain rfl : m = 8 := by omega
          go_wp2
          go_roundw
          case rel =>
            obtain ⟨hM3, hA3, hB3, hC3⟩ := HN.out
            refine ⟨j + 1, by omega, by go_num, by go_num, _, rfl, fun i hi => ?_⟩
            by_cases hp2 : i = j
            · subst hp2; exact ⟨hA3, hB3, hC3⟩
            · exact hM3 i (by omega)
          case measure => simp [intOf]; omega
    · obtain rfl : j = n := by omega
      have hd : decide ((j : Int) < (j : Int)) = false := by simp
      go_wp2
      go_ret
      exact ⟨rfl, _, rfl, HM.out⟩
set_option maxHeartbeats 4000000 in
theorem heldR_any (D n cap N : Nat) (f : Nat → Value) (w : World) (hn : n ≤ 1048576) (hN : n * 266 ≤ N) (hm : ∀ j, j < n → Mkd f j) (h1 : w.heap[D]? = some (.cells (vrow N f) 39)) : Calls Tryd.prog 18 #[.slice (some ⟨D, 0, none⟩) n cap, .int .i64 1] w fun e w' => e = .returned (.int .i64 (1 + 10 * (n : Int))) ∧ Below w.heap.size w w' := by
  have P := Go.Lib.hid h1
  have HM := Go.Lib.hid hm
  clear h1 hm
  go_enter Tryd.func18, Tryd.ntmps18
  go_wp2
  go_loopw [1, 5] (fun kv iv wr => ∃ j : Nat, j ≤ n ∧ iv = .int .i64 j ∧ kv = .int .i64 (1 + 10 * (j : Int)) ∧ wr = w) (fun _ iv _ => n - (intOf iv).toNat)
  case atStart => exact ⟨0, by omega, rfl, rfl, rfl⟩
  case round =>
    obtain ⟨j, hj, rfl, rfl, rfl⟩ := hrel
    by_cases hlt : j < n
    · have hkI : (j : Int) < n := by omega
      have hnl : (n : Int) ≤ 1048576 := by omega
      have hw : ∀ m : Int, 0 ≤ m → m ≤ 40000000 → IntKind.i64.wrap m = m := fun m h1 h2 => IntWalk.i64_in m (by omega)
      have HJ := Go.Lib.hid (HM.out j hlt)
      go_wp2_with (first
        | go_skip
        | ((with_reducible refine wlAt 17 rfl ?_); refine wpList_load1 rfl 23 (.tmp 16) rfl D (j * 266) rfl N f _ _ Tryd.underlying23 rfl P.out (by omega) ?_; rw [HJ.out.1])
        | ((with_reducible refine wlAt 27 rfl ?_); refine wpList_load1 rfl 23 (.tmp 26) rfl D (j * 266 + 1) rfl N f _ _ Tryd.underlying23 rfl P.out (by omega) ?_; rw [HJ.out.2.1]))
      go_loopw [1, 6] (fun kv mv wz => ∃ m : Nat, m ≤ 8 ∧ mv = .int .i64 m ∧ kv = .int .i64 (3 + 10 * (j : Int) + (m : Int)) ∧ wz = wr) (fun _ mv _ => 8 - (intOf mv).toNat)
      case atStart => exact ⟨0, by omega, rfl, by go_num, rfl⟩
      case round =>
        obtain ⟨m, hm, rfl, rfl, rfl⟩ := hrel
        by_cases hlm : m < 8
        · have hmI : (m : Int) < 8 := by omega
          go_wp2_with (first
            | go_skip
            | ((with_reducible refine wlAt 43 rfl ?_); refine wpList_load1 rfl 5 (.tmp 42) rfl D (j * 266 + 258 + m) rfl N f _ _ Tryd.underlying5 rfl P.out (by omega) ?_; rw [HJ.out.2.2 m hlm]))
          go_roundw
          case rel => exact ⟨m + 1, by omega, by go_num, by go_num, by first | rfl | trivial⟩
          case measure => simp [intOf]; omega
        · obtain rfl : m = 8 := by omega
          go_wp2
          go_roundw
          case rel => exact ⟨j + 1, by omega, by go_num, by go_num, by first | rfl | trivial⟩
          case measure => simp [intOf]; omega
    · obtain rfl : j = n := by omega
      have hd : decide ((j : Int) < (j : Int)) = false := by simp
      go_wp2
      go_ret
      exact ⟨rfl, Below.refl _ _⟩
set_option maxHeartbeats 2000000 in
theorem mark0K_any (ao : Option Addr) (c : Nat) (k : Int) (w : World) : Calls Tryd.prog 17 #[.slice ao 0 c, .int .i64 k] w fun e w' => e = .returned (.int .i64 k) ∧ Below w.heap.size w w' := by
  go_enter Tryd.func17, Tryd.ntmps17
  go_wp2
  go_loopw [1, 5] (fun kv iv wr => kv = .int .i64 k ∧ iv = .int .i64 0 ∧ Below w.heap.size w wr) (fun _ _ _ => 0)
  case atStart => exact ⟨rfl, rfl, Below.refl _ _⟩
  case round =>
    obtain ⟨rfl, rfl, hB⟩ := hrel
    go_wp2
    go_ret
    exact ⟨rfl, hB⟩
set_option maxHeartbeats 2000000 in
theorem held0K_any (ao : Option Addr) (c : Nat) (k : Int) (w : World) : Calls Tryd.prog 18 #[.slice ao 0 c, .int .i64 k] w fun e w' => e = .returned (.int .i64 k) ∧ Below w.heap.size w w' := by
  go_enter Tryd.func18, Tryd.ntmps18
  go_wp2
  go_loopw [1, 5] (fun kv iv wr => kv = .int .i64 k ∧ iv = .int .i64 0 ∧ Below w.heap.size w wr) (fun _ _ _ => 0)
  case atStart => exact ⟨rfl, rfl, Below.refl _ _⟩
  case round =>
    obtain ⟨rfl, rfl, hB⟩ := hrel
    go_wp2
    go_ret
    exact ⟨rfl, hB⟩
/-- a stack of the program's own, from B on -/
def PK (w : World) (v : Value) (n : Nat) (ss : Nat → Sh) (B : Nat) : Prop := ∃ ao c, v = .slice ao n c ∧ (n = 0 ∨ ∃ g N f, ao = some ⟨g, 0, none⟩ ∧ B ≤ g ∧ n * 266 ≤ N ∧ w.heap[g]? = some (.cells (vrow N f) 39) ∧ ∀ k, k < n → SubAt f (k * 266) (ss k))
theorem PK.next {w w' : World} {v : Value} {n : Nat} {ss : Nat → Sh} {B : Nat} (h : PK w v n ss B) (hb : Below w.heap.size w w') : PK w' v n ss B := by
  obtain ⟨ao, c, rfl, hr⟩ := h
  refine ⟨ao, c, rfl, hr.imp id ?_⟩
  rintro ⟨g, N, f, h1, h2, h3, h4, h5⟩
  exact ⟨g, N, f, h1, h2, h3, row_next hb h4, h5⟩
theorem PK.lo {w : World} {v : Value} {n : Nat} {ss : Nat → Sh} {B B' : Nat} (h : PK w v n ss B) (hb : B' ≤ B) : PK w v n ss B' := by
  obtain ⟨ao, c, rfl, hr⟩ := h
  refine ⟨ao, c, rfl, hr.imp id ?_⟩
  rintro ⟨g, N, f, h1, h2, h3, h4, h5⟩
  exact ⟨g, N, f, h1, by omega, h3, h4, h5⟩
theorem PK.set {w : World} {v : Value} {n : Nat} {ss : Nat → Sh} {B q : Nat} (h : PK w v n ss B) (hb : q < B) (cs : Array Value) : PK (w.setRow q cs) v n ss B := by
  obtain ⟨ao, c, rfl, hr⟩ := h
  refine ⟨ao, c, rfl, hr.imp id ?_⟩
  rintro ⟨g, N, f, h1, h2, h3, h4, h5⟩
  exact ⟨g, N, f, h1, h2, h3, row_set' (show g ≠ q by omega) h4 cs, h5⟩
theorem PK.none {w : World} {B : Nat} {ss : Nat → Sh} : PK w (.slice none 0 0) 0 ss B := ⟨_, _, rfl, .inl rfl⟩
theorem PK.slp {w : World} {v : Value} {n : Nat} {ss : Nat → Sh} {B : Nat} (h : PK w v n ss B) : SlK w v n ss w.heap.size := by
  obtain ⟨ao, c, rfl, hr⟩ := h
  refine ⟨ao, c, rfl, fun hn => ?_⟩
  rcases hr with h0 | ⟨g, N, f, h1, h2, h3, h4, h5⟩
  · omega
  · exact ⟨g, N, f, h1, row_lt h4, h3, h4, h5⟩
/-- the cells of k sheets -/
def xsK (ss : Nat → Sh) : Nat → List Value
  | 0 => []
  | k + 1 => xsK ss k ++ (vrow 266 (ss k).at).toList
theorem xsK_len (ss : Nat → Sh) : ∀ k, (xsK ss k).length = k * 266
  | 0 => rfl
  | k + 1 => by
    show (xsK ss k ++ (vrow 266 (ss k).at).toList).length = _
    rw [List.length_append, xsK_len ss k, show (vrow 266 (ss k).at).toList.length = 266 by simp [vrow]]
    omega
theorem xsK_at (ss : Nat → Sh) : ∀ n k j, k < n → j < 266 → (xsK ss n)[k * 266 + j]? = some ((ss k).at j)
  | 0, k, j, h, _ => by omega
  | n + 1, k, j, h, hj => by
    show (xsK ss n ++ (vrow 266 (ss n).at).toList)[k * 266 + j]? = _
    by_cases he : k = n
    · subst he
      rw [List.getElem?_append_right (by rw [xsK_len]; omega), xsK_len, show k * 266 + j - k * 266 = j by omega, Array.getElem?_toList, vrow_get _ _ _ hj]
    · rw [List.getElem?_append_left (by rw [xsK_len]; omega)]
      exact xsK_at ss n k j (by omega) hj
theorem own_pk {W : World} {base n : Nat} {v : Value} {ss : Nat → Sh} (h : W.ownsRow base 39 266 v n (xsK ss n)) : PK W v n ss base := by
  rcases h.2 with ⟨rfl, h0⟩ | ⟨g, cap, cur, rfl, hg, _, _, _, _, _⟩
  · have hl := xsK_len ss n
    rw [h0] at hl
    have hn : n = 0 := by simp at hl; omega
    subst hn
    exact PK.none
  · obtain ⟨f, h1, h2, h3⟩ := own_row_ofK h
    refine ⟨_, _, rfl, .inr ⟨g, cap * 266, f, rfl, hg, Nat.mul_le_mul_right _ h2, h1, fun k hk j hj => ?_⟩⟩
    exact h3 (k * 266 + j) _ (by omega) (xsK_at ss n k j hk hj)
def MK (w : World) (v : Value) (n : Nat) : Prop := ∃ ao c, v = .slice ao n c ∧ (n = 0 ∨ ∃ g N f, ao = some ⟨g, 0, none⟩ ∧ n * 266 ≤ N ∧ w.heap[g]? = some (.cells (vrow N f) 39) ∧ ∀ j, j < n → Mkd f j)
theorem MK.next {w w' : World} {v : Value} {n : Nat} (h : MK w v n) (hb : Below w.heap.size w w') : MK w' v n := by
  obtain ⟨ao, c, rfl, hr⟩ := h
  refine ⟨ao, c, rfl, hr.imp id ?_⟩
  rintro ⟨g, N, f, h1, h3, h4, h5⟩
  exact ⟨g, N, f, h1, h3, row_next hb h4, h5⟩
theorem markPK (v : Value) (n : Nat) (ss : Nat → Sh) (B : Nat) (w : World) (hn : n ≤ 1048576) (hB : B ≤ w.heap.size) (h : PK w v n ss B) : Calls Tryd.prog 17 #[v, .int .i64 1] w fun e w' => e = .returned (.int .i64 (1 + 10 * (n : Int))) ∧ MK w' v n ∧ Below B w w' := by
  obtain ⟨ao, c, rfl, hr⟩ := h
  rcases hr with rfl | ⟨g, N, f, rfl, hg, hN, hr, _⟩
  · refine (mark0K_any ao c 1 w).mono ?_
    rintro e w' ⟨rfl, hb⟩
    exact ⟨by simp, ⟨ao, c, rfl, .inl rfl⟩, hb.mono hB⟩
  · refine (markR_any g n c N f w hn hN hr).mono ?_
    rintro e w' ⟨rfl, f', rfl, hm⟩
    exact ⟨rfl, ⟨_, _, rfl, .inr ⟨g, N, f', rfl, hN, row_set hr _, hm⟩⟩, Below_setRow (Below.refl _ _) hg _⟩
theorem heldMK (v : Value) (n : Nat) (w : World) (hn : n ≤ 1048576) (h : MK w v n) : Calls Tryd.prog 18 #[v, .int .i64 1] w fun e w' => e = .returned (.int .i64 (1 + 10 * (n : Int))) ∧ Below w.heap.size w w' := by
  obtain ⟨ao, c, rfl, hr⟩ := h
  rcases hr with rfl | ⟨g, N, f, rfl, hN, hr, hm⟩
  · refine (held0K_any ao c 1 w).mono ?_
    rintro e w' ⟨rfl, hb⟩
    exact ⟨by simp, hb⟩
  · exact heldR_any g n c N f w hn hN hm hr
end Go.Proofs.YtfhfiaphdgfmnaaDoor
