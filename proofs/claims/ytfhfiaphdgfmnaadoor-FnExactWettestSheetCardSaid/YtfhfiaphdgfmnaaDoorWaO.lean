import Derived.Deep.RegionHeld3
import Derived.Test.YtfhfiaphdgfmnaaDoorOkO
import Derived.Test.YtfhfiaphdgfmnaaDoorWater
namespace Go.Proofs.YtfhfiaphdgfmnaaDoor
open Go.RowKit
set_option maxRecDepth 100000
set_option linter.unusedVariables false
set_option linter.unusedSimpArgs false
set_option maxHeartbeats 1000000 in
theorem lwater_anyO (s : Sh) (b oo NN : Nat) (FF : Nat → Value) (hN : oo + 266 ≤ NN) (hF : SubAt FF oo s) (w : World) (hs : w.heap[b]? = some (.cells (vrow NN FF) 39)) (hf : s.fit) : Calls Tryd.prog 66 #[.pointer (some ⟨b, oo, none⟩)] w fun e w' => e = .returned (.int .i64 (wsum s 64)) ∧ Below w.heap.size w w' := by
  have hB := Go.Lib.hid (Below.refl w.heap.size w)
  have P := Go.Lib.hid hs
  clear hs
  go_enter Tryd.func66, Tryd.ntmps66
  go_wp2
  go_loopw [3, 4] (fun sm y wr => ∃ k : Nat, k ≤ 8 ∧ y = .int .i64 k ∧ sm = .int .i64 (wsum s (8 * k)) ∧ Below w.heap.size w wr ∧ wr.heap[b]? = some (.cells (vrow NN FF) 39)) (fun _ y _ => 8 - (intOf y).toNat)
  case atStart => exact ⟨0, by omega, rfl, rfl, hB.out, P.out⟩
  case round =>
    clear hB P
    obtain ⟨k, hk, rfl, rfl, hB, P⟩ := hrel
    replace hB := Go.Lib.hid hB; replace P := Go.Lib.hid P
    by_cases hlt : k < 8
    · have hdk : decide ((k : Int) < 8) = true := by simp; omega
      go_wp2
      obtain ⟨wo, hwo⟩ : ∃ wo : World, wo = wr := ⟨_, rfl⟩
      rw [← hwo] at hB P ⊢
      clear hwo wr
      go_loopw [3, 5] (fun sm x wr => ∃ j : Nat, j ≤ 8 ∧ x = .int .i64 j ∧ sm = .int .i64 (wsum s (8 * k + j)) ∧ Below w.heap.size w wr ∧ wr.heap[b]? = some (.cells (vrow NN FF) 39)) (fun _ x _ => 8 - (intOf x).toNat)
      case atStart => exact ⟨0, by omega, rfl, rfl, hB.out, P.out⟩
      case round =>
        clear hB P
        obtain ⟨j, hj, rfl, rfl, hB, P⟩ := hrel
        replace hB := Go.Lib.hid hB; replace P := Go.Lib.hid P
        by_cases hlj : j < 8
        · obtain ⟨g1, g2⟩ := hf.wet (8 * k + j) (by omega)
          obtain ⟨g3, g4⟩ := wsum_bd s hf (8 * k + j) (by omega)
          have hxI : (j : Int) < 8 := by omega
          have hyI : (k : Int) < 8 := by omega
          go_wp2_with (first
            | (refine list_at 22 rfl ?_; intro W hW; rw [hW] at hB P; clear hW; have P' := Go.Lib.hid (cls_row' P.out); (repeat (first | go_big_quiet_skip | (refine wpQuiet_load1 24 _ rfl (by first | exact want_n rfl | exact want_g _ _ _ rfl rfl rfl) b _ rfl NN FF _ rw_i16 P'.out (by omega) ?_; (first | rw [SubAt.wet hF _ (8 * k + j) (by omega) (by omega)]); simp only [Act.put, List.setIfInBounds_toArray, List.set_cons_succ, List.set_cons_zero]) | go_big_quiet_step (fail))); refine wpQuiet_nil ?_; intro Wn hb; replace P := Go.Lib.hid (row_next hb P.out); replace hB := Go.Lib.hid (below_next hB.out hb); clear hb P'))
          go_roundw
          case rel => exact ⟨j + 1, by omega, by go_num, by first | rfl | (show _ = Value.int .i64 (wsum s (8 * k + j) + s.wet (8 * k + j)); go_num), hB.out, P.out⟩
          case measure => simp [intOf]; omega
        · obtain rfl : j = 8 := by omega
          go_wp2
          go_roundw
          case rel => exact ⟨k + 1, by omega, by go_num, rfl, hB.out, P.out⟩
          case measure => simp [intOf]; omega
    · obtain rfl : k = 8 := by omega
      go_wp2
      go_ret
      exact ⟨rfl, hB.out⟩
end Go.Proofs.YtfhfiaphdgfmnaaDoor
