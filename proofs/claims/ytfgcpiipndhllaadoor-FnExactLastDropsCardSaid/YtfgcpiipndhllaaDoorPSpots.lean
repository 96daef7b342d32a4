import Derived.Test.YtfgcpiipndhllaaDoorSpots
import Derived.Test.YtfgcpiipndhllaaDoorPicS
namespace Go.Proofs.YtfgcpiipndhllaaDoor
open Go.RowKit
set_option maxRecDepth 100000
set_option linter.unusedVariables false
set_option linter.unusedSimpArgs false
set_option maxHeartbeats 2000000 in
theorem pspots_any (s : Pic) (b a c : Nat) (w : World) (hs : w.heap[b]? = some (.cells s.row 61)) (ea : s.wide = a) (ec : s.high = c) (ha : a ≤ 8) (hc : c ≤ 8) : Calls Tryd.prog 145 #[.pointer (some ⟨b, 0, none⟩)] w fun e w' => ∃ v, e = .returned v ∧ Owns w' w.heap.size v (cellsL a c) ∧ Below w.heap.size w w' := by
  obtain ⟨i0, hi, hz0, hz1, hz2⟩ := info_parts info_spot
  have hbs := row_lt hs
  go_enter Tryd.func145, Tryd.ntmps145
  go_wp2
  have P0 : (w.alloc (.cells #[] 33)).heap[b]? = some (.cells s.row 61) := heap_past _ _ _ _ hbs hs
  have O0 : (w.alloc (.cells #[] 33)).ownsRow w.heap.size 33 2 (.slice (some ⟨w.heap.size, 0, none⟩) 0 0) 0 [] := World.ownsRow_made w #[] 0 (Nat.le_refl _) (by decide) rfl
  have B0 : Below w.heap.size w (w.alloc (.cells #[] 33)) := (Below.refl _ _).alloc (Nat.le_refl _) _
  generalize hW : w.alloc _ = W0 at P0 O0 B0 ⊢
  clear hW hs
  go_loopw [3, 4] (fun v y wr => ∃ k : Nat, k ≤ c ∧ y = .int .i8 k ∧ wr.ownsRow w.heap.size 33 2 v (cellsL a k).length (vals (cellsL a k)) ∧ Below w.heap.size w wr ∧ wr.heap[b]? = some (.cells s.row 61)) (fun _ y _ => c - (intOf y).toNat)
  case atStart => exact ⟨0, by omega, rfl, O0, B0, P0⟩
  case round =>
    clear P0 O0 B0
    obtain ⟨k, hk, rfl, hO, hB0, hP⟩ := hrel
    have O := Go.Lib.hid hO; have hB := Go.Lib.hid hB0; have P : Hid (wr.heap[b]? = some (.cells (vrow 66 s.at) 61)) := hP
    clear hO hP hB0
    by_cases hlt : k < c
    · have hdk : decide ((k : Int) < s.high) = true := by rw [ec]; simp; omega
      go_wp2_with (first
        | (refine wpList_load1 rfl 22 _ rfl b _ rfl 66 s.at _ _ Tryd.underlying22 rfl P.out (by omega) ?_; rw [Pic.at_1]))
      obtain ⟨wo, hwo⟩ : ∃ wo : World, wo = wr := ⟨_, rfl⟩
      rw [← hwo] at O hB P ⊢
      clear hwo wr
      go_loopw [3, 5] (fun v x wr => ∃ j : Nat, j ≤ a ∧ x = .int .i8 j ∧ wr.ownsRow w.heap.size 33 2 v (cellsL a k ++ rowOf j k).length (vals (cellsL a k ++ rowOf j k)) ∧ Below w.heap.size w wr ∧ wr.heap[b]? = some (.cells s.row 61)) (fun _ x _ => a - (intOf x).toNat)
      case atStart => exact ⟨0, by omega, rfl, by simpa [rowOf] using O.out, hB.out, P.out⟩
      case round =>
        clear O hB P
        obtain ⟨j, hj, rfl, hO, hB0, hP⟩ := hrel
        have O := Go.Lib.hid hO; have hB := Go.Lib.hid hB0; have P : Hid (wr.heap[b]? = some (.cells (vrow 66 s.at) 61)) := hP
        clear hO hP hB0
        by_cases hlj : j < a
        · have hdj : decide ((j : Int) < s.wide) = true := by rw [ea]; simp; omega
          have hlen : (cellsL a k ++ rowOf j k).length ≤ 64 := by
            have : a * k ≤ 8 * 7 := Nat.mul_le_mul ha (by omega)
            rw [List.length_append, cellsL_length, rowOf_length]; omega
          have hsz := hB.out.size
          go_wp2_with (first
            | (refine wpList_load1 rfl 22 _ rfl b _ rfl 66 s.at _ _ Tryd.underlying22 rfl P.out (by omega) ?_; rw [Pic.at_0])
            | (at_builtin; refine wpList_append_own _ rfl (.tmp 23) (.tmp 27) 100 rfl w.heap.size 33 i0 (.agg #[.int .i8 0, .int .i8 0]) 2 2 Tryd.underlying100 hi hz0 hz1 hz2 rfl (by decide) _ _ _ rfl (O.out.alloc _) ⟨wr.heap.size, 0, none⟩ 1 1 [.int .i8 j, .int .i8 k] rfl rfl (World.news_of_block (heap_at _ _ _ rfl)) (by simp [Value.oneCell']) (by simp only [maxLen]; omega) (by omega) (by simp; omega) ?_; intro v' w1 hown' hgrow _))
          have B1 : Below w.heap.size w w1 := (hB.out.alloc hsz _).grown hgrow (by simp; omega) (fun q hq => (O.out.lt q hq).1)
          have P1 : w1.heap[b]? = some (.cells s.row 61) := (hgrow.block b (by have := row_lt P.out; simp; omega) (fun e => by have := (O.out.lt b e.symm).1; omega)).trans (heap_past _ _ _ _ (row_lt P.out) P.out)
          have hs := rowOf_succ j k
          have e1 : vals (cellsL a k ++ rowOf (j + 1) k) = vals (cellsL a k ++ rowOf j k) ++ [.int .i8 j, .int .i8 k] := by
            rw [hs, ← List.append_assoc, vals_app _ [_], vals_one, mk8_x (by omega) (by omega)]
          have e2 : (cellsL a k ++ rowOf (j + 1) k).length = (cellsL a k ++ rowOf j k).length + 1 := by
            rw [hs, ← List.append_assoc, List.length_append]; rfl
          go_roundw
          case rel => exact ⟨j + 1, by omega, by go_num, by rw [e1, e2]; exact hown', B1, P1⟩
          case measure => simp [intOf]; omega
        · obtain rfl : j = a := by omega
          have hdj : decide ((j : Int) < s.wide) = false := by rw [ea]; simp
          go_wp2_with (first
            | (refine wpList_load1 rfl 22 _ rfl b _ rfl 66 s.at _ _ Tryd.underlying22 rfl P.out (by omega) ?_; rw [Pic.at_0]))
          go_roundw
          case rel => exact ⟨k + 1, by omega, by go_num, by rw [cellsL_succ]; exact O.out, hB.out, P.out⟩
          case measure => simp [intOf]; omega
    · obtain rfl : k = c := by omega
      have hdk : decide ((k : Int) < s.high) = false := by rw [ec]; simp
      go_wp2_with (first
        | (refine wpList_load1 rfl 22 _ rfl b _ rfl 66 s.at _ _ Tryd.underlying22 rfl P.out (by omega) ?_; rw [Pic.at_1]))
      go_ret
      exact ⟨_, rfl, ⟨O.out⟩, hB.out⟩
end Go.Proofs.YtfgcpiipndhllaaDoor
