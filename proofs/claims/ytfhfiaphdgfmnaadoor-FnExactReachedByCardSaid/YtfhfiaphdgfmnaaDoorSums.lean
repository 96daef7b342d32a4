import Derived.Test.YtfhfiaphdgfmnaaDoorG1
import Derived.Test.YtfhfiaphdgfmnaaDoorLaid2
import Derived.Test.YtfhfiaphdgfmnaaDoorImplW
namespace Go.Proofs.YtfhfiaphdgfmnaaDoor
open Go.RowKit
set_option maxRecDepth 100000
set_option linter.unusedVariables false
def isum (s : Sh) (i : Nat) : Nat → Int
  | 0 => 0
  | c + 1 => isum s i c + s.dye (3 * c + i)
theorem isum_bd (s : Sh) (hf : s.fit) (i : Nat) (hi : i < 3) : ∀ c : Nat, c ≤ 64 → -32768 * (c : Int) ≤ isum s i c ∧ isum s i c ≤ 32767 * (c : Int)
  | 0, _ => by simp [isum]
  | c + 1, hc => by
    have := isum_bd s hf i hi c (by omega)
    have := hf.dye (3 * c + i) (by omega)
    simp only [isum]; omega
/-- the sums, while inks below i have taken cell c -/
def sumsF (s : Sh) (c i m : Nat) : Value := .int .i64 (isum s m (if m < i then c + 1 else c))
theorem sumsF_at (s : Sh) (c i : Nat) : sumsF s c i i = .int .i64 (isum s i c) := by simp [sumsF]
theorem sums_zero (s : Sh) : vrow 3 (fun _ => .int .i64 0) = vrow 3 (sumsF s 0 0) := vrow_ext _ _ _ fun i _ => by simp [sumsF, isum]
theorem sums_step (s : Sh) (c i : Nat) : vrow 3 (over (sumsF s c i) i 1 fun _ => .int .i64 (isum s i c + s.dye (3 * c + i))) = vrow 3 (sumsF s c (i + 1)) := vrow_ext _ _ _ fun m _ => by
  unfold over sumsF
  by_cases h : i ≤ m ∧ m < i + 1
  · obtain rfl : m = i := by omega
    rw [if_pos h, if_pos (by omega)]
    rfl
  · rw [if_neg h]
    by_cases h2 : m < i
    · rw [if_pos h2, if_pos (by omega)]
    · rw [if_neg h2, if_neg (by omega)]
theorem sums_next (s : Sh) (c : Nat) : vrow 3 (sumsF s c 3) = vrow 3 (sumsF s (c + 1) 0) := vrow_ext _ _ _ fun m hm => by simp [sumsF, hm]
theorem sums_one (s : Sh) (c i m : Nat) : (sumsF s c i m).oneCell' = true := rfl
theorem size_a3 : (Tryd.prog.info? 50).map (·.size) = some 3 := by kernel_rfl
theorem built_a3 : Tryd.prog.built 50 [] = some (vrow 3 fun _ => .int .i64 0) := by kernel_rfl
theorem zero_a3 : ∀ w, (zeroValue 50).run Tryd.prog w = .ok (.agg (vrow 3 fun _ => .int .i64 0)) w := fun _ => by kernel_rfl
set_option maxHeartbeats 2000000 in
theorem lsums_any (s : Sh) (b : Nat) (w : World) (hs : w.heap[b]? = some (.cells s.row 39)) (hf : s.fit) : Calls Tryd.prog 58 #[.pointer (some ⟨b, 0, none⟩)] w fun e w' => e = .returned (.agg (vrow 3 (sumsF s 64 0))) ∧ Below w.heap.size w w' := by
  have zz := zero_a3
  have hB : Hid (Below w.heap.size w ((w.alloc (.cells (vrow 3 (fun _ => .int .i64 0)) 50)).alloc (.cells (vrow 3 (fun _ => .int .i64 0)) 50))) := (((Below.refl w.heap.size w).alloc (by simp <;> omega) _).alloc (by simp <;> omega) _)
  have Z : Hid (((w.alloc (.cells (vrow 3 (fun _ => .int .i64 0)) 50)).alloc (.cells (vrow 3 (fun _ => .int .i64 0)) 50)).heap[(w.heap.size)]? = some (.cells (vrow 3 (fun _ => .int .i64 0)) 50)) := heap_past _ _ _ _ (by first | omega | (simp <;> omega)) (heap_at _ _ _ (by simp))
  have D : Hid (((w.alloc (.cells (vrow 3 (fun _ => .int .i64 0)) 50)).alloc (.cells (vrow 3 (fun _ => .int .i64 0)) 50)).heap[(w.heap.size + 1)]? = some (.cells (vrow 3 (fun _ => .int .i64 0)) 50)) := heap_at _ _ _ (by simp)
  have P : Hid (((w.alloc (.cells (vrow 3 (fun _ => .int .i64 0)) 50)).alloc (.cells (vrow 3 (fun _ => .int .i64 0)) 50)).heap[b]? = some (.cells (vrow 266 s.at) 39)) := heap_past _ _ _ _ (by first | (have := row_lt hs; omega) | (have := row_lt hs; simp <;> omega)) (heap_past _ _ _ _ (by first | (have := row_lt hs; omega) | (have := row_lt hs; simp <;> omega)) (hs))
  have hbs := row_lt hs
  clear hs
  go_enter Tryd.func58, Tryd.ntmps58
  go_wp2_with (first
    | (refine wpList_built rfl 50 [] rfl [] (by rfl) _ built_a3 ?_)
    | (refine wpList_storeall rfl 50 (.tmp 3) (.tmp 7) rfl (w.heap.size + 1) rfl 3 (fun _ => .int .i64 0) (fun _ => .int .i64 0) rfl 50 size_a3 D.out (fun _ _ => rfl) ?_; rw [sums_zero s]; replace D := Go.Lib.hid (row_set D.out (vrow 3 (sumsF s 0 0))); replace Z := Go.Lib.hid (row_set' (g := w.heap.size + 1) (by omega) Z.out (vrow 3 (sumsF s 0 0))); replace P := Go.Lib.hid (row_set' (g := w.heap.size + 1) (show b ≠ w.heap.size + 1 by omega) P.out (vrow 3 (sumsF s 0 0))); replace hB := Go.Lib.hid (Below_setRow hB.out (show w.heap.size ≤ w.heap.size + 1 by omega) (vrow 3 (sumsF s 0 0)))))
  clear zz
  go_loopw [4] (fun y wr => ∃ k : Nat, k ≤ 8 ∧ y = .int .i64 k ∧ Below w.heap.size w wr ∧ wr.heap[b]? = some (.cells (vrow 266 s.at) 39) ∧ wr.heap[w.heap.size]? = some (.cells (vrow 3 fun _ => .int .i64 0) 50) ∧ wr.heap[w.heap.size + 1]? = some (.cells (vrow 3 (sumsF s (8 * k) 0)) 50)) (fun y _ => 8 - (intOf y).toNat)
  case atStart => exact ⟨0, by omega, rfl, hB.out, P.out, Z.out, D.out⟩
  case round =>
    clear hB P Z D
    obtain ⟨k, hk, rfl, hB, P, Z, D⟩ := hrel
    replace hB := Go.Lib.hid hB; replace P := Go.Lib.hid P; replace Z := Go.Lib.hid Z; replace D := Go.Lib.hid D
    by_cases hlt : k < 8
    · have hdk : decide ((k : Int) < 8) = true := by simp; omega
      go_wp2
      obtain ⟨wo, hwo⟩ : ∃ wo : World, wo = wr := ⟨_, rfl⟩
      rw [← hwo] at hB P Z D ⊢
      clear hwo wr
      go_loopw [5] (fun x wr => ∃ j : Nat, j ≤ 8 ∧ x = .int .i64 j ∧ Below w.heap.size w wr ∧ wr.heap[b]? = some (.cells (vrow 266 s.at) 39) ∧ wr.heap[w.heap.size]? = some (.cells (vrow 3 fun _ => .int .i64 0) 50) ∧ wr.heap[w.heap.size + 1]? = some (.cells (vrow 3 (sumsF s (8 * k + j) 0)) 50)) (fun x _ => 8 - (intOf x).toNat)
      case atStart => exact ⟨0, by omega, rfl, hB.out, P.out, Z.out, D.out⟩
      case round =>
        clear hB P Z D
        obtain ⟨j, hj, rfl, hB, P, Z, D⟩ := hrel
        replace hB := Go.Lib.hid hB; replace P := Go.Lib.hid P; replace Z := Go.Lib.hid Z; replace D := Go.Lib.hid D
        by_cases hlj : j < 8
        · have hdj : decide ((j : Int) < 8) = true := by simp; omega
          go_wp2
          obtain ⟨wo2, hwo⟩ : ∃ wo2 : World, wo2 = wr := ⟨_, rfl⟩
          rw [← hwo] at hB P Z D ⊢
          clear hwo wr
          go_loopw [6] (fun z wr => ∃ i : Nat, i ≤ 3 ∧ z = .int .i64 i ∧ Below w.heap.size w wr ∧ wr.heap[b]? = some (.cells (vrow 266 s.at) 39) ∧ wr.heap[w.heap.size]? = some (.cells (vrow 3 fun _ => .int .i64 0) 50) ∧ wr.heap[w.heap.size + 1]? = some (.cells (vrow 3 (sumsF s (8 * k + j) i)) 50)) (fun z _ => 3 - (intOf z).toNat)
          case atStart => exact ⟨0, by omega, rfl, hB.out, P.out, Z.out, D.out⟩
          case round =>
            clear hB P Z D
            obtain ⟨i, hi, rfl, hB, P, Z, D⟩ := hrel
            replace hB := Go.Lib.hid hB; replace P := Go.Lib.hid P; replace Z := Go.Lib.hid Z; replace D := Go.Lib.hid D
            by_cases hli : i < 3
            · obtain ⟨g1, g2⟩ := hf.dye (3 * (8 * k + j) + i) (by omega)
              obtain ⟨g3, g4⟩ := isum_bd s hf i hli (8 * k + j) (by omega)
              have hnum : Value.int .i64 (IntKind.i64.wrap (isum s i (8 * k + j) + IntKind.i64.wrap (s.dye (3 * (8 * k + j) + i)))) = Value.int .i64 (isum s i (8 * k + j) + s.dye (3 * (8 * k + j) + i)) := wrap2 _ _ (by omega) (by omega)
              replace hnum := Go.Lib.hid hnum
              have hxI : (j : Int) < 8 := by omega
              have hyI : (k : Int) < 8 := by omega
              have hzI : (i : Int) < 3 := by omega
              go_wp2
              refine wp_region_still_tail 16 (by kernel_rfl) (by kernel_rfl) ?_
              simp only [List.take_succ_cons, List.take_zero, List.drop_succ_cons, List.drop_zero, World.drew_eq]
              repeat (first
                | (refine wpStill_load1 rfl 2 _ rfl (w.heap.size + 1) _ rfl 3 (sumsF s (8 * k + j) i) _ _ Tryd.underlying2 rfl D.out (by omega) ?_; rw [sumsF_at]; simp only [Act.put, List.setIfInBounds_toArray, List.set_cons_succ, List.set_cons_zero])
                | (refine wpStill_load1 rfl 24 _ rfl b _ rfl 266 s.at _ _ Tryd.underlying24 rfl P.out (by omega) ?_; rw [Sh.at_dye1 _ _ (3 * (8 * k + j) + i) (by omega) (by omega)]; simp only [Act.put, List.setIfInBounds_toArray, List.set_cons_succ, List.set_cons_zero])
                | still_step
                | (refine wpStill_step (fun K hK => ?_); go_simp; simp only [hxI, hyI, hzI, if_true]; go_simp; refine hK _ ?_; clear hK K))
              refine wpStill_nil ?_
              refine wpList_store1 rfl 2 (.tmp 35) (.tmp 34) rfl (w.heap.size + 1) _ rfl 3 (sumsF s (8 * k + j) i) (.int .i64 (isum s i (8 * k + j) + s.dye (3 * (8 * k + j) + i))) (by rw [← hnum.out]; rfl) 50 size_i64 D.out (by omega) rfl ?_
              rw [sums_step]
              have D2 := Go.Lib.hid (row_set (w := wr.drew) D.out (vrow 3 (sumsF s (8 * k + j) (i + 1))))
              have Z2 := Go.Lib.hid (row_set' (w := wr.drew) (g := w.heap.size + 1) (show w.heap.size ≠ w.heap.size + 1 by omega) Z.out (vrow 3 (sumsF s (8 * k + j) (i + 1))))
              have P2 := Go.Lib.hid (row_set' (w := wr.drew) (g := w.heap.size + 1) (show b ≠ w.heap.size + 1 by omega) P.out (vrow 3 (sumsF s (8 * k + j) (i + 1))))
              have hB2 := Go.Lib.hid (Below_setRow hB.out.drew (show w.heap.size ≤ w.heap.size + 1 by omega) (vrow 3 (sumsF s (8 * k + j) (i + 1))))
              clear hB P Z D
              go_wp2
              go_roundw
              case rel => exact ⟨i + 1, by omega, by go_num, hB2.out, P2.out, Z2.out, D2.out⟩
              case measure => simp [intOf]; omega
            · obtain rfl : i = 3 := by omega
              rw [sums_next] at D
              go_wp2
              go_roundw
              case rel => exact ⟨j + 1, by omega, by go_num, hB.out, P.out, Z.out, D.out⟩
              case measure => simp [intOf]; omega
        · obtain rfl : j = 8 := by omega
          go_wp2
          go_roundw
          case rel => exact ⟨k + 1, by omega, by go_num, hB.out, P.out, Z.out, D.out⟩
          case measure => simp [intOf]; omega
    · obtain rfl : k = 8 := by omega
      go_wp2_with (first
        | (refine wpList_loadall rfl 50 (.tmp 3) rfl _ rfl 3 (sumsF s (8 * 8) 0) 50 _ Tryd.underlying50 rfl size_a3 D.out ?_)
        | (refine wpList_storeall rfl 50 (.tmp 2) (.tmp 36) rfl (w.heap.size) rfl 3 (fun _ => .int .i64 0) (sumsF s (8 * 8) 0) rfl 50 size_a3 Z.out (fun i _ => sums_one _ _ _ i) ?_))
      exact ret_row Tryd.results58 (w.heap.size) 3 (sumsF s 64 0) 50 _ Tryd.underlying50 rfl size_a3 rfl rfl (row_set Z.out _) ⟨rfl, Below_setRow hB.out (Nat.le_refl _) _⟩
end Go.Proofs.YtfhfiaphdgfmnaaDoor
