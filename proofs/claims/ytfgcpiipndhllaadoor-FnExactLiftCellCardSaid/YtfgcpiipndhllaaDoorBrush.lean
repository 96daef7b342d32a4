import Derived.Deep.RegionHeld3
import Derived.Test.YtfgcpiipndhllaaDoorG1
import Derived.Test.YtfgcpiipndhllaaDoorEqs
namespace Go.Proofs.YtfgcpiipndhllaaDoor
open Go.RowKit
set_option maxRecDepth 100000
set_option linter.unusedVariables false
set_option linter.unusedSimpArgs false
/-- A brush's numbers. -/
structure Br where
  dye : Nat → Int
  water : Int
  share : Int
def Br.at (b : Br) (i : Nat) : Value := if i < 3 then .int .i16 (b.dye i) else if i = 3 then .int .i16 b.water else .int .i8 b.share
abbrev Br.row (b : Br) : Array Value := vrow 5 b.at
theorem Br.one (b : Br) (i : Nat) : (b.at i).oneCell' = true := by unfold Br.at; split; rfl; split <;> rfl
theorem Br.at_0 (b : Br) : b.at 0 = .int .i16 (b.dye 0) := rfl
theorem Br.at_1 (b : Br) : b.at 1 = .int .i16 (b.dye 1) := rfl
theorem Br.at_2 (b : Br) : b.at 2 = .int .i16 (b.dye 2) := rfl
theorem Br.at_3 (b : Br) : b.at 3 = .int .i16 b.water := rfl
theorem Br.at_4 (b : Br) : b.at 4 = .int .i8 b.share := rfl
theorem Br.at_k (b : Br) (k : Nat) (hk : k < 3) : b.at k = .int .i16 (b.dye k) := by unfold Br.at; rw [if_pos hk]
theorem Br.at_d (b : Br) (k : Nat) (hk : k < 3) : b.at (0 + k) = .int .i16 (b.dye k) := by rw [Nat.zero_add]; exact b.at_k k hk
theorem Br.at_dye (b : Br) : vrow 3 (fun i => b.at (0 + i)) = irow .i16 3 b.dye := vrow_ext _ _ _ fun i hi => b.at_d i hi
def Br.zero : Br := ⟨fun _ => 0, 0, 0⟩
structure Br.fit (b : Br) : Prop where
  dye : ∀ i, i < 3 → -32768 ≤ b.dye i ∧ b.dye i ≤ 32767
  water : -32768 ≤ b.water ∧ b.water ≤ 32767
  share : -128 ≤ b.share ∧ b.share ≤ 127
def Br.sum (b : Br) : Int := b.dye 0 + b.dye 1 + b.dye 2
def Br.ok (b : Br) : Bool := decide (0 ≤ b.dye 0) && (decide (0 ≤ b.dye 1) && (decide (0 ≤ b.dye 2) && (decide (b.sum ≤ 900) && (decide (0 ≤ b.water) && (decide (b.water ≤ 200) && (decide (1 ≤ b.share) && decide (b.share ≤ 16)))))))
theorem Br.ok_iff (b : Br) : b.ok = true ↔ (0 ≤ b.dye 0 ∧ 0 ≤ b.dye 1 ∧ 0 ≤ b.dye 2 ∧ b.sum ≤ 900 ∧ 0 ≤ b.water ∧ b.water ≤ 200 ∧ 1 ≤ b.share ∧ b.share ≤ 16) := by simp [Br.ok]
theorem Br.ok_not (b : Br) (h : ¬ (0 ≤ b.dye 0 ∧ 0 ≤ b.dye 1 ∧ 0 ≤ b.dye 2 ∧ b.sum ≤ 900 ∧ 0 ≤ b.water ∧ b.water ≤ 200 ∧ 1 ≤ b.share ∧ b.share ≤ 16)) : b.ok = false := by
  cases hb : b.ok
  · rfl
  · exact absurd (b.ok_iff.1 hb) h
theorem size_br : (Tryd.prog.info? 49).map (·.size) = some 5 := by kernel_rfl
theorem size_lbr : (Tryd.prog.info? 47).map (·.size) = some 5 := by kernel_rfl
theorem zero_br : ∀ w, (zeroValue 49).run Tryd.prog w = .ok (.agg Br.zero.row) w := fun _ => by kernel_rfl
def Br.f1 (b : Br) := over Br.zero.at 0 3 fun i => .int .i16 (b.dye i)
def Br.f2 (b : Br) := over b.f1 3 1 fun _ => b.at 3
def Br.f3 (b : Br) := over b.f2 4 1 fun _ => b.at 4
theorem Br.f3_row (b : Br) : vrow 5 b.f3 = b.row := vrow_ext _ _ _ fun i hi => by
  simp only [Br.f3, Br.f2, Br.f1, over, Br.at]
  by_cases h0 : i < 3
  · rw [if_neg (by omega), if_neg (by omega), if_pos (by omega), if_pos h0]; rw [Nat.sub_zero]
  · by_cases h1 : i = 3
    · subst h1; simp
    · rw [if_pos (by omega), if_neg h0, if_neg h1]; simp
theorem Br.f3_one (b : Br) (i : Nat) : i < 5 → (b.f3 i).oneCell' = true := by
  intro hi
  have h := vrow_get 5 b.f3 i hi
  rw [b.f3_row, vrow_get _ _ _ hi] at h
  rw [← Option.some.inj h]; exact b.one i
set_option maxHeartbeats 1000000 in
theorem toBrush_any (b : Br) (w : World) : Calls Tryd.prog 23 #[.agg b.row] w fun e w' => e = .returned (.agg b.row) ∧ Below w.heap.size w w' := by
  have zz := zero_br
  have P : Hid ((((w.alloc (.cells (vrow 5 b.at) 47)).alloc (.cells (vrow 5 Br.zero.at) 49)).alloc (.cells (vrow 5 Br.zero.at) 49)).heap[w.heap.size]? = some (.cells (vrow 5 b.at) 47)) := heap_past _ _ _ _ (by simp <;> omega) (heap_past _ _ _ _ (by simp <;> omega) (heap_at _ _ _ (by simp)))
  have R : Hid ((((w.alloc (.cells (vrow 5 b.at) 47)).alloc (.cells (vrow 5 Br.zero.at) 49)).alloc (.cells (vrow 5 Br.zero.at) 49)).heap[w.heap.size + 1]? = some (.cells (vrow 5 Br.zero.at) 49)) := heap_past _ _ _ _ (by simp <;> omega) (heap_at _ _ _ (by simp))
  have V : Hid ((((w.alloc (.cells (vrow 5 b.at) 47)).alloc (.cells (vrow 5 Br.zero.at) 49)).alloc (.cells (vrow 5 Br.zero.at) 49)).heap[w.heap.size + 1 + 1]? = some (.cells (vrow 5 Br.zero.at) 49)) := heap_at _ _ _ (by simp)
  have hB : Hid (Below w.heap.size w (((w.alloc (.cells (vrow 5 b.at) 47)).alloc (.cells (vrow 5 Br.zero.at) 49)).alloc (.cells (vrow 5 Br.zero.at) 49))) := ((((Below.refl w.heap.size w).alloc (by simp <;> omega) _).alloc (by simp <;> omega) _).alloc (by simp <;> omega) _)
  go_enter Tryd.func23, Tryd.ntmps23
  go_wp2_with (first
    | go_skip
    | ((with_reducible refine wlAt 5 rfl ?_); refine wpList_loadmid rfl 26 (.tmp 4) rfl _ 0 rfl 5 3 b.at 47 _ Tryd.underlying26 rfl size_d3 P.out (by omega) ?_; rw [Br.at_dye])
    | (go_at_call 78; refine (toInt16A3_any _ _).mono ?_; rintro e w1 ⟨rfl, hb⟩; replace P := Go.Lib.hid (row_next hb P.out); replace R := Go.Lib.hid (row_next hb R.out); replace V := Go.Lib.hid (row_next hb V.out); replace hB := Go.Lib.hid (below_next hB.out hb); clear hb)
    | ((with_reducible refine wlOp (.store 26 (.tmp 7) (.tmp 6)) rfl ?_); refine wpList_storemid rfl 26 (.tmp 7) (.tmp 6) rfl _ 0 rfl 5 3 Br.zero.at (fun i => .int .i16 (b.dye i)) rfl 49 size_d3 V.out (by omega) (fun _ _ => rfl) ?_; change wpList _ _ _ _ _ (World.setRow _ _ (vrow 5 b.f1)); replace P := Go.Lib.hid (row_set' (k := w.heap.size) (g := w.heap.size + 1 + 1) (by omega) P.out (vrow 5 b.f1)); replace R := Go.Lib.hid (row_set' (k := w.heap.size + 1) (g := w.heap.size + 1 + 1) (by omega) R.out (vrow 5 b.f1)); replace hB := Go.Lib.hid (Below_setRow hB.out (g := w.heap.size + 1 + 1) (by omega) (vrow 5 b.f1)); replace V := Go.Lib.hid (row_set V.out (vrow 5 b.f1)))
    | ((with_reducible refine wlAt 9 rfl ?_); refine wpList_load1 rfl 23 (.tmp 8) rfl _ 3 rfl 5 b.at 47 _ Tryd.underlying23 rfl P.out (by omega) ?_)
    | ((with_reducible refine wlOp (.store 23 (.tmp 10) (.tmp 9)) rfl ?_); refine wpList_store1 rfl 23 (.tmp 10) (.tmp 9) rfl _ 3 rfl 5 b.f1 (b.at 3) rfl 49 size_i16 V.out (by omega) (b.one _) ?_; change wpList _ _ _ _ _ (World.setRow _ _ (vrow 5 b.f2)); replace P := Go.Lib.hid (row_set' (k := w.heap.size) (g := w.heap.size + 1 + 1) (by omega) P.out (vrow 5 b.f2)); replace R := Go.Lib.hid (row_set' (k := w.heap.size + 1) (g := w.heap.size + 1 + 1) (by omega) R.out (vrow 5 b.f2)); replace hB := Go.Lib.hid (Below_setRow hB.out (g := w.heap.size + 1 + 1) (by omega) (vrow 5 b.f2)); replace V := Go.Lib.hid (row_set V.out (vrow 5 b.f2)))
    | ((with_reducible refine wlAt 12 rfl ?_); refine wpList_load1 rfl 22 (.tmp 11) rfl _ 4 rfl 5 b.at 47 _ Tryd.underlying22 rfl P.out (by omega) ?_)
    | ((with_reducible refine wlOp (.store 22 (.tmp 13) (.tmp 12)) rfl ?_); refine wpList_store1 rfl 22 (.tmp 13) (.tmp 12) rfl _ 4 rfl 5 b.f2 (b.at 4) rfl 49 size_i8 V.out (by omega) (b.one _) ?_; change wpList _ _ _ _ _ (World.setRow _ _ (vrow 5 b.f3)); replace P := Go.Lib.hid (row_set' (k := w.heap.size) (g := w.heap.size + 1 + 1) (by omega) P.out (vrow 5 b.f3)); replace R := Go.Lib.hid (row_set' (k := w.heap.size + 1) (g := w.heap.size + 1 + 1) (by omega) R.out (vrow 5 b.f3)); replace hB := Go.Lib.hid (Below_setRow hB.out (g := w.heap.size + 1 + 1) (by omega) (vrow 5 b.f3)); replace V := Go.Lib.hid (row_set V.out (vrow 5 b.f3)))
    | ((with_reducible refine wlAt 14 rfl ?_); refine wpList_loadall rfl 49 (.tmp 3) rfl _ rfl 5 b.f3 49 _ Tryd.underlying49 rfl size_br V.out ?_)
    | ((with_reducible refine wlOp (.store 49 (.tmp 2) (.tmp 14)) rfl ?_); refine wpList_storeall rfl 49 (.tmp 2) (.tmp 14) rfl _ rfl 5 Br.zero.at b.f3 rfl 49 size_br R.out (fun i hi => by have := b.f3_one i; exact this hi) ?_; replace R := Go.Lib.hid (row_set R.out (vrow 5 b.f3)); replace hB := Go.Lib.hid (Below_setRow hB.out (g := w.heap.size + 1) (by omega) (vrow 5 b.f3))))
  refine ret_row Tryd.results23 _ 5 b.f3 49 _ Tryd.underlying49 rfl size_br rfl rfl R.out ?_
  exact ⟨by rw [b.f3_row], hB.out⟩
set_option maxHeartbeats 1000000 in
theorem eqBrush_any (b : Br) (w : World) : Calls Tryd.prog 26 #[.agg b.row, .agg b.row] w fun e w' => e = .returned (.bool true) ∧ Below w.heap.size w w' := by
  have P : Hid (((w.alloc (.cells (vrow 5 b.at) 49)).alloc (.cells (vrow 5 b.at) 49)).heap[w.heap.size]? = some (.cells (vrow 5 b.at) 49)) := heap_past _ _ _ _ (by simp <;> omega) (heap_at _ _ _ (by simp))
  have R : Hid (((w.alloc (.cells (vrow 5 b.at) 49)).alloc (.cells (vrow 5 b.at) 49)).heap[w.heap.size + 1]? = some (.cells (vrow 5 b.at) 49)) := heap_at _ _ _ (by simp)
  have hB : Hid (Below w.heap.size w ((w.alloc (.cells (vrow 5 b.at) 49)).alloc (.cells (vrow 5 b.at) 49))) := (((Below.refl w.heap.size w).alloc (by simp <;> omega) _).alloc (by simp <;> omega) _)
  go_enter Tryd.func26, Tryd.ntmps26
  go_wp2_with (first
    | go_skip
    | ((with_reducible refine wlAt 6 rfl ?_); refine wpList_loadmid rfl 26 (.tmp 5) rfl _ 0 rfl 5 3 b.at 49 _ Tryd.underlying26 rfl size_d3 P.out (by omega) ?_; rw [Br.at_dye])
    | ((with_reducible refine wlAt 8 rfl ?_); refine wpList_loadmid rfl 26 (.tmp 7) rfl _ 0 rfl 5 3 b.at 49 _ Tryd.underlying26 rfl size_d3 R.out (by omega) ?_; rw [Br.at_dye])
    | (go_at_call 82; refine (eqInt16A3_any _ _).mono ?_; rintro e w1 ⟨rfl, hb⟩; replace P := Go.Lib.hid (row_next hb P.out); replace R := Go.Lib.hid (row_next hb R.out); replace hB := Go.Lib.hid (below_next hB.out hb); clear hb)
    | ((with_reducible refine wlAt 12 rfl ?_); refine wpList_load1 rfl 23 (.tmp 11) rfl _ 3 rfl 5 b.at 49 _ Tryd.underlying23 rfl P.out (by omega) ?_; rw [Br.at_3])
    | ((with_reducible refine wlAt 14 rfl ?_); refine wpList_load1 rfl 23 (.tmp 13) rfl _ 3 rfl 5 b.at 49 _ Tryd.underlying23 rfl R.out (by omega) ?_; rw [Br.at_3])
    | ((with_reducible refine wlAt 17 rfl ?_); refine wpList_load1 rfl 22 (.tmp 16) rfl _ 4 rfl 5 b.at 49 _ Tryd.underlying22 rfl P.out (by omega) ?_; rw [Br.at_4])
    | ((with_reducible refine wlAt 19 rfl ?_); refine wpList_load1 rfl 22 (.tmp 18) rfl _ 4 rfl 5 b.at 49 _ Tryd.underlying22 rfl R.out (by omega) ?_; rw [Br.at_4]))
  go_ret
  exact ⟨rfl, hB.out⟩
theorem idx_b (d : Nat → Int) (k : Nat) (hk : k < 3) (w : World) : (Instr.index 26 (.agg #[.int .i16 (d 0), .int .i16 (d 1), .int .i16 (d 2)]) (.int .i64 k)).run Tryd.prog w = .ok (.int .i16 (d k)) w := by
  have i0 : ∀ (a b c : Value) (w : World), (Instr.index 26 (.agg #[a, b, c]) (.int .i64 0)).run Tryd.prog w = .ok a w := fun _ _ _ _ => by kernel_rfl
  have i1 : ∀ (a b c : Value) (w : World), (Instr.index 26 (.agg #[a, b, c]) (.int .i64 1)).run Tryd.prog w = .ok b w := fun _ _ _ _ => by kernel_rfl
  have i2 : ∀ (a b c : Value) (w : World), (Instr.index 26 (.agg #[a, b, c]) (.int .i64 2)).run Tryd.prog w = .ok c w := fun _ _ _ _ => by kernel_rfl
  have : k = 0 ∨ k = 1 ∨ k = 2 := by omega
  rcases this with rfl | rfl | rfl
  · exact i0 _ _ _ w
  · exact i1 _ _ _ w
  · exact i2 _ _ _ w
def bsum (d : Nat → Int) : Nat → Int
  | 0 => 0
  | k + 1 => bsum d k + d k
theorem bsum_bd (d : Nat → Int) (hd : ∀ i, i < 3 → -32768 ≤ d i ∧ d i ≤ 32767) : ∀ k : Nat, k ≤ 3 → -32768 * (k : Int) ≤ bsum d k ∧ bsum d k ≤ 32767 * (k : Int)
  | 0, _ => by simp [bsum]
  | k + 1, hk => by
    have := bsum_bd d hd k (by omega)
    have := hd k (by omega)
    simp only [bsum]; omega
theorem bsum_3 (b : Br) : bsum b.dye 3 = b.sum := by simp only [bsum, Br.sum]; omega
theorem d3_lit (d : Nat → Int) : vrow 3 (fun i => Value.int .i16 (d i)) = #[.int .i16 (d 0), .int .i16 (d 1), .int .i16 (d 2)] := rfl
set_option maxHeartbeats 400000 in
theorem darkw_any (d : Nat → Int) (hd : ∀ i, i < 3 → -32768 ≤ d i ∧ d i ≤ 32767) (w : World) : Calls Tryd.prog 150 #[.agg (irow .i16 3 d)] w fun e w' => e = .returned (.int .i64 (bsum d 3)) ∧ Below w.heap.size w w' := by
  have hB : Hid (Below w.heap.size w (w.alloc (.cells (irow .i16 3 d) 26))) := ((Below.refl w.heap.size w).alloc (by simp <;> omega) _)
  have D : Hid ((w.alloc (.cells (irow .i16 3 d) 26)).heap[(w.heap.size)]? = some (.cells (irow .i16 3 d) 26)) := heap_at _ _ _ (by simp)
  go_enter Tryd.func150, Tryd.ntmps150
  go_wp2_with (first
    | go_skip
    | ((with_reducible refine wlAt 6 rfl ?_); refine wpList_loadall rfl 26 (.tmp 1) rfl _ rfl 3 (fun i => .int .i16 (d i)) 26 _ Tryd.underlying26 rfl size_d3 D.out ?_; rw [d3_lit]))
  go_loopw [3, 7] (fun sm i wr => ∃ k : Nat, k ≤ 3 ∧ i = .int .i64 k ∧ sm = .int .i64 (bsum d k) ∧ Below w.heap.size w wr) (fun _ i _ => 3 - (intOf i).toNat)
  case atStart => exact ⟨0, by omega, rfl, rfl, hB.out⟩
  case round =>
    clear hB D
    obtain ⟨k, hk, rfl, rfl, hB⟩ := hrel
    replace hB := Go.Lib.hid hB
    obtain ⟨hs1, hs2⟩ := bsum_bd d hd k hk
    by_cases hlt : k < 3
    · have hix := idx_b d k hlt
      obtain ⟨hd1, hd2⟩ := hd k hlt
      go_wp2
      go_roundw
      case rel => exact ⟨k + 1, by omega, by go_num, by first | rfl | (simp only [bsum]; go_num), hB.out⟩
      case measure => simp [intOf]; omega
    · obtain rfl : k = 3 := by omega
      go_wp2
      go_ret
      exact ⟨rfl, hB.out⟩
set_option maxHeartbeats 400000 in
theorem bload_any (b : Br) (hf : b.fit) (w : World) : Calls Tryd.prog 132 #[.agg b.row] w fun e w' => e = .returned (.int .i64 b.sum) ∧ Below w.heap.size w w' := by
  have HD0 := fun w => darkw_any b.dye hf.dye w
  rw [bsum_3] at HD0
  have HD := Go.Lib.hid HD0
  clear HD0
  clear hf
  have P : Hid ((w.alloc (.cells (vrow 5 b.at) 49)).heap[w.heap.size]? = some (.cells (vrow 5 b.at) 49)) := heap_at _ _ _ (by simp)
  have hB : Hid (Below w.heap.size w (w.alloc (.cells (vrow 5 b.at) 49))) := ((Below.refl w.heap.size w).alloc (by simp <;> omega) _)
  go_enter Tryd.func132, Tryd.ntmps132
  go_wp2_with (first
    | go_skip
    | ((with_reducible refine wlAt 4 rfl ?_); refine wpList_loadmid rfl 26 (.tmp 3) rfl _ 0 rfl 5 3 b.at 49 _ Tryd.underlying26 rfl size_d3 P.out (by omega) ?_; rw [Br.at_dye])
    | (go_at_call 150; refine (HD.out _).mono ?_; rintro e w1 ⟨rfl, hb⟩; replace P := Go.Lib.hid (row_next hb P.out); replace hB := Go.Lib.hid (below_next hB.out hb); clear hb))
  go_ret
  exact ⟨rfl, hB.out⟩
set_option maxHeartbeats 400000 in
theorem lload_any (b : Br) (n : Nat) (w : World) (hf : b.fit) (hs : w.heap[n]? = some (.cells (vrow 5 b.at) 49)) : Calls Tryd.prog 77 #[.pointer (some ⟨n, 0, none⟩)] w fun e w' => e = .returned (.int .i64 b.sum) ∧ Below w.heap.size w w' := by
  have c0 : w.cell? ⟨n, 0, none⟩ = some (.int .i16 (b.dye 0)) := cell_row hs (by omega)
  have c1 : w.cell? ⟨n, 1, none⟩ = some (.int .i16 (b.dye 1)) := cell_row hs (by omega)
  have c2 : w.cell? ⟨n, 2, none⟩ = some (.int .i16 (b.dye 2)) := cell_row hs (by omega)
  obtain ⟨h0, h0'⟩ := hf.dye 0 (by omega)
  obtain ⟨h1, h1'⟩ := hf.dye 1 (by omega)
  obtain ⟨h2, h2'⟩ := hf.dye 2 (by omega)
  clear hf hs
  go_enter Tryd.func77, Tryd.ntmps77
  go_wp2
  go_quiet (fail)
  go_wp2
  go_ret
  exact ⟨rfl, by first | exact below_drewN (Below.refl _ _) _ | exact (Below.refl _ _).drew⟩
end Go.Proofs.YtfgcpiipndhllaaDoor
