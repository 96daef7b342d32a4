import Derived.Deep.RegionHeld3
import Derived.Test.YtfhfiaphdgfmnaaDoorStS
import Derived.Test.YtfhfiaphdgfmnaaDoorSameZ
import Derived.Test.YtfhfiaphdgfmnaaDoorSkA
import Derived.Test.YtfhfiaphdgfmnaaDoorImplV
import Derived.Test.YtfhfiaphdgfmnaaDoorOkEq
namespace Go.Proofs.YtfhfiaphdgfmnaaDoor
open Go.RowKit
set_option maxRecDepth 100000
set_option linter.unusedVariables false
set_option linter.unusedSimpArgs false
/-- a stack is valid -/
def stOne (ss : Nat → Sh) (k : Nat) : Bool := okB (ss k) && alikeB (ss k) (ss 0)
def stOk (ss : Nat → Sh) (n : Nat) : Bool := alN (stOne ss) n && decide (n ≤ 6)
set_option maxHeartbeats 8000000 in
theorem lok5_any (ss : Nat → Sh) (D n cp : Nat) (w : World) (hn : n ≤ 1048576) (hf : ∀ i, (ss i).fit) (h1 : w.heap[D]? = some (.cells (vrow (n * 266) (stF ss)) 39)) : Calls Tryd.prog 38 #[.slice (some ⟨D, 0, none⟩) n cp] w fun e w' => e = .returned (.bool (stOk ss n)) ∧ Below w.heap.size w w' := by
  have P := Go.Lib.hid h1
  have hB := Go.Lib.hid (Below.refl w.heap.size w)
  clear h1
  have F0 := Go.Lib.hid (stF_sub ss 0)
  go_enter Tryd.func38, Tryd.ntmps38
  go_wp2
  go_loopw [3] (fun iv wr => ∃ k : Nat, k ≤ n ∧ iv = .int .i64 k ∧ alN (stOne ss) k = true ∧ wr.heap[D]? = some (.cells (vrow (n * 266) (stF ss)) 39) ∧ Below w.heap.size w wr) (fun iv _ => n - (intOf iv).toNat)
  case atStart => exact ⟨0, by omega, rfl, rfl, P.out, hB.out⟩
  case round =>
    clear P hB
    obtain ⟨k, hk, rfl, hal, P, hB⟩ := hrel
    have HAL := Go.Lib.hid hal
    clear hal
    replace P := Go.Lib.hid P; replace hB := Go.Lib.hid hB
    by_cases hlt : k < n
    · have hkI : (k : Int) < (n : Int) := by omega
      have h0I : (0 : Int) < (n : Int) := by omega
      have hnl : (n : Int) ≤ 1048576 := by omega
      have FK := Go.Lib.hid (stF_sub ss k)
      have HO := Go.Lib.hid fun w h => ok_fromO w (ss k) D (k * 266) (n * 266) (stF ss) (by omega) FK.out w h (hf k) (Below.refl _ _)
      obtain ⟨b, hb0⟩ : ∃ b, okB (ss k) = b := ⟨_, rfl⟩
      rw [hb0] at HO
      have HOK := Go.Lib.hid hb0
      clear hb0
      have hone : stOne ss k = (okB (ss k) && ((ss k).wide == (ss 0).wide && (ss k).high == (ss 0).high)) := rfl
      rw [HOK.out] at hone
      generalize ss k = sk at FK hone
      generalize ss 0 = s0 at F0 hone
      replace hone := Go.Lib.hid hone
      cases b
      · go_wp2
        (refine region_at (by kernel_rfl) (by kernel_rfl) ?_; intro W hW; rw [hW] at hB P; clear hW; have P' := Go.Lib.hid (cls_row' P.out); (repeat (first | go_big_quiet_skip | (refine wpQuiet_load1 23 _ rfl (by first | exact want_n rfl | exact want_g _ _ _ rfl rfl rfl) D _ rfl (n * 266) (stF ss) _ rw_i8 P'.out (by omega) ?_; (first | rw [SubAt.p0 FK.out _ (by omega)] | rw [SubAt.p1 FK.out _ (by omega)] | rw [SubAt.p0 F0.out _ (by omega)] | rw [SubAt.p1 F0.out _ (by omega)]); simp only [Act.put, List.setIfInBounds_toArray, List.set_cons_succ, List.set_cons_zero]) | go_big_quiet_step ((go_at_call 39; exact cls_call _ (fun w hw => HO.out w (row_next hw P.out)))))); refine wpQuiet_nil ?_; intro Wn hb; replace P := Go.Lib.hid (row_next hb P.out); replace hB := Go.Lib.hid (below_next hB.out hb); clear hb P')
        go_wp2
        go_ret
        exact ⟨by rw [show stOk ss n = false by unfold stOk; rw [alN_no hone.out n hlt]; rfl]; rfl, hB.out⟩
      · by_cases h1 : sk.wide = s0.wide
        · have t1 : (sk.wide == s0.wide) = true := by simpa using h1
          have t2 : (sk.wide != s0.wide) = false := by simpa using h1
          by_cases h2 : sk.high = s0.high
          · have t3 : (sk.high == s0.high) = true := by simpa using h2
            have t4 : (sk.high != s0.high) = false := by simpa using h2
            clear h1 h2
            go_wp2
            (refine region_at (by kernel_rfl) (by kernel_rfl) ?_; intro W hW; rw [hW] at hB P; clear hW; have P' := Go.Lib.hid (cls_row' P.out); (repeat (first | go_big_quiet_skip | (refine wpQuiet_load1 23 _ rfl (by first | exact want_n rfl | exact want_g _ _ _ rfl rfl rfl) D _ rfl (n * 266) (stF ss) _ rw_i8 P'.out (by omega) ?_; (first | rw [SubAt.p0 FK.out _ (by omega)] | rw [SubAt.p1 FK.out _ (by omega)] | rw [SubAt.p0 F0.out _ (by omega)] | rw [SubAt.p1 F0.out _ (by omega)]); simp only [Act.put, List.setIfInBounds_toArray, List.set_cons_succ, List.set_cons_zero]) | go_big_quiet_step ((go_at_call 39; exact cls_call _ (fun w hw => HO.out w (row_next hw P.out)))))); refine wpQuiet_nil ?_; intro Wn hb; replace P := Go.Lib.hid (row_next hb P.out); replace hB := Go.Lib.hid (below_next hB.out hb); clear hb P')
            go_wp2
            go_roundw
            case rel => exact ⟨k + 1, by omega, by go_num, by show (alN (stOne ss) k && stOne ss k) = true; rw [HAL.out, hone.out, t1, t3]; rfl, P.out, hB.out⟩
            case measure => simp [intOf]; omega
          · have t3 : (sk.high == s0.high) = false := by simpa using h2
            have t4 : (sk.high != s0.high) = true := by simpa using h2
            clear h1 h2
            go_wp2
            (refine region_at (by kernel_rfl) (by kernel_rfl) ?_; intro W hW; rw [hW] at hB P; clear hW; have P' := Go.Lib.hid (cls_row' P.out); (repeat (first | go_big_quiet_skip | (refine wpQuiet_load1 23 _ rfl (by first | exact want_n rfl | exact want_g _ _ _ rfl rfl rfl) D _ rfl (n * 266) (stF ss) _ rw_i8 P'.out (by omega) ?_; (first | rw [SubAt.p0 FK.out _ (by omega)] | rw [SubAt.p1 FK.out _ (by omega)] | rw [SubAt.p0 F0.out _ (by omega)] | rw [SubAt.p1 F0.out _ (by omega)]); simp only [Act.put, List.setIfInBounds_toArray, List.set_cons_succ, List.set_cons_zero]) | go_big_quiet_step ((go_at_call 39; exact cls_call _ (fun w hw => HO.out w (row_next hw P.out)))))); refine wpQuiet_nil ?_; intro Wn hb; replace P := Go.Lib.hid (row_next hb P.out); replace hB := Go.Lib.hid (below_next hB.out hb); clear hb P')
            go_wp2
            go_ret
            exact ⟨by rw [show stOk ss n = false by unfold stOk; rw [alN_no (by rw [hone.out, t3]; simp) n hlt]; rfl]; rfl, hB.out⟩
        · have t1 : (sk.wide == s0.wide) = false := by simpa using h1
          have t2 : (sk.wide != s0.wide) = true := by simpa using h1
          clear h1
          go_wp2
          (refine region_at (by kernel_rfl) (by kernel_rfl) ?_; intro W hW; rw [hW] at hB P; clear hW; have P' := Go.Lib.hid (cls_row' P.out); (repeat (first | go_big_quiet_skip | (refine wpQuiet_load1 23 _ rfl (by first | exact want_n rfl | exact want_g _ _ _ rfl rfl rfl) D _ rfl (n * 266) (stF ss) _ rw_i8 P'.out (by omega) ?_; (first | rw [SubAt.p0 FK.out _ (by omega)] | rw [SubAt.p1 FK.out _ (by omega)] | rw [SubAt.p0 F0.out _ (by omega)] | rw [SubAt.p1 F0.out _ (by omega)]); simp only [Act.put, List.setIfInBounds_toArray, List.set_cons_succ, List.set_cons_zero]) | go_big_quiet_step ((go_at_call 39; exact cls_call _ (fun w hw => HO.out w (row_next hw P.out)))))); refine wpQuiet_nil ?_; intro Wn hb; replace P := Go.Lib.hid (row_next hb P.out); replace hB := Go.Lib.hid (below_next hB.out hb); clear hb P')
          go_wp2
          go_ret
          exact ⟨by rw [show stOk ss n = false by unfold stOk; rw [alN_no (by rw [hone.out, t1]; simp) n hlt]; rfl]; rfl, hB.out⟩
    · obtain rfl : k = n := by omega
      have hd : decide ((k : Int) < (k : Int)) = false := by simp
      have h6 : decide ((k : Int) ≤ 6) = decide (k ≤ 6) := by simp; omega
      go_wp2
      go_ret
      exact ⟨by unfold stOk; rw [HAL.out, ← h6]; rfl, hB.out⟩
end Go.Proofs.YtfhfiaphdgfmnaaDoor
