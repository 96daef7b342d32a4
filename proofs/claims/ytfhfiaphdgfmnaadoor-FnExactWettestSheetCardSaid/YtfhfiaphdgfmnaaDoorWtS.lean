import Derived.Deep.RegionHeld3
import Derived.Test.YtfhfiaphdgfmnaaDoorWtI
import Derived.Test.YtfhfiaphdgfmnaaDoorWaO
namespace Go.Proofs.YtfhfiaphdgfmnaaDoor
open Go.RowKit
set_option maxRecDepth 100000
set_option linter.unusedVariables false
set_option linter.unusedSimpArgs false
set_option maxHeartbeats 4000000 in
theorem lws_bad (ss : Nat → Sh) (D n cp : Nat) (w : World) (hn : n ≤ 1048576) (hf : ∀ i, (ss i).fit) (ho : stOk ss n = false) (h1 : w.heap[D]? = some (.cells (vrow (n * 266) (stF ss)) 39)) : Calls Tryd.prog 34 #[.slice (some ⟨D, 0, none⟩) n cp] w fun o w' => o = .returned (.tuple #[.int .i64 0, .int .i64 0, .int .i64 1]) ∧ Below w.heap.size w w' := by
  have HO0 := fun w h => lok5_any ss D n cp w hn hf h
  rw [ho] at HO0
  have HO := Go.Lib.hid HO0
  clear HO0
  have P := Go.Lib.hid h1
  have hB := Go.Lib.hid (Below.refl w.heap.size w)
  clear h1 hf ho
  go_enter Tryd.func34, Tryd.ntmps34
  go_wp2_with (first
    | go_skip
    | (go_at_call 38; (refine (HO.out _ P.out).mono ?_); rintro o w2 ⟨rfl, hb⟩; replace P := Go.Lib.hid (row_next hb P.out); replace hB := Go.Lib.hid (below_next hB.out hb); clear hb)
    )
  first | go_ret3 | go_ret
  exact ⟨rfl, hB.out⟩
set_option maxHeartbeats 4000000 in
theorem lws_0 (ss : Nat → Sh) (D n cp : Nat) (w : World) (hn : n ≤ 1048576) (hf : ∀ i, (ss i).fit) (ho : stOk ss n = true) (h0 : n = 0) (h1 : w.heap[D]? = some (.cells (vrow (n * 266) (stF ss)) 39)) : Calls Tryd.prog 34 #[.slice (some ⟨D, 0, none⟩) n cp] w fun o w' => o = .returned (.tuple #[.int .i64 0, .int .i64 0, .int .i64 6]) ∧ Below w.heap.size w w' := by
  subst h0
  have HO0 := fun w h => lok5_any ss D 0 cp w hn hf h
  rw [ho] at HO0
  have HO := Go.Lib.hid HO0
  clear HO0
  have P := Go.Lib.hid h1
  have hB := Go.Lib.hid (Below.refl w.heap.size w)
  clear h1 hf ho
  go_enter Tryd.func34, Tryd.ntmps34
  go_wp2_with (first
    | go_skip
    | (go_at_call 38; (refine (HO.out _ P.out).mono ?_); rintro o w2 ⟨rfl, hb⟩; replace P := Go.Lib.hid (row_next hb P.out); replace hB := Go.Lib.hid (below_next hB.out hb); clear hb)
    )
  first | go_ret3 | go_ret
  exact ⟨rfl, hB.out⟩
set_option maxHeartbeats 4000000 in
theorem lws_ok (ss : Nat → Sh) (D n cp : Nat) (w : World) (hn : n ≤ 1048576) (hf : ∀ i, (ss i).fit) (ho : stOk ss n = true) (h6 : n ≤ 6) (h0 : 0 < n) (h1 : w.heap[D]? = some (.cells (vrow (n * 266) (stF ss)) 39)) : Calls Tryd.prog 34 #[.slice (some ⟨D, 0, none⟩) n cp] w fun o w' => o = .returned (.tuple #[.int .i64 ((bestI (fun k => wsum (ss k) 64) (n - 1) : Nat) : Int), .int .i64 (wsum (ss (bestI (fun k => wsum (ss k) 64) (n - 1))) 64), .int .i64 0]) ∧ Below w.heap.size w w' := by
  have HO0 := fun w h => lok5_any ss D n cp w hn hf h
  rw [ho] at HO0
  have HO := Go.Lib.hid HO0
  clear HO0
  have HW := Go.Lib.hid fun k w hk h => (show Calls Tryd.prog 66 #[.pointer (some ⟨D, k * 266, none⟩)] w fun e w' => e = .returned (.int .i64 (wsum (ss k) 64)) ∧ Below w.heap.size w w' from lwater_anyO (ss k) D (k * 266) (n * 266) (stF ss) (by have : k < n := hk; omega) (stF_sub ss k) w h (hf k))
  have HW0 : Hid (∀ w, w.heap[D]? = some (.cells (vrow (n * 266) (stF ss)) 39) → Calls Tryd.prog 66 #[.pointer (some ⟨D, 0, none⟩)] w fun e w' => e = .returned (.int .i64 (wsum (ss 0) 64)) ∧ Below w.heap.size w w') := Go.Lib.hid fun w h => by have g := HW.out 0 w h0 h; rwa [Nat.zero_mul] at g
  have hb0 : bestI (fun k => wsum (ss k) 64) 0 = 0 := rfl
  have hstep := Go.Lib.hid fun k => And.intro (@bestI_y (fun k => wsum (ss k) 64) k) (@bestI_n (fun k => wsum (ss k) 64) k)
  have hle := Go.Lib.hid (bestI_le (fun k => wsum (ss k) 64))
  generalize bestI (fun k => wsum (ss k) 64) = B at *
  generalize hqq : (fun k => wsum (ss k) 64) = q at *
  have hqe : ∀ k, wsum (ss k) 64 = q k := fun k => by rw [← hqq]
  simp only [hqe] at HW HW0 hstep ⊢
  clear hqq hqe
  have h0I : decide ((n : Int) = 0) = false := by simp; omega
  have h0B : ((n : Int) == 0) = false := by simp; omega
  have h0J : (0 : Int) < (n : Int) := by omega
  have P := Go.Lib.hid h1
  have hB := Go.Lib.hid (Below.refl w.heap.size w)
  clear h1 hf ho
  go_enter Tryd.func34, Tryd.ntmps34
  go_wp2_with (first
    | go_skip
    | (go_at_call 38; (refine (HO.out _ P.out).mono ?_); rintro o w2 ⟨rfl, hb⟩; replace P := Go.Lib.hid (row_next hb P.out); replace hB := Go.Lib.hid (below_next hB.out hb); clear hb)
    | (go_at_call 66; (refine (HW0.out _ P.out).mono ?_); rintro o w3 ⟨rfl, hb⟩; replace P := Go.Lib.hid (row_next hb P.out); replace hB := Go.Lib.hid (below_next hB.out hb); clear hb))
  have p1 := P.out; have b1 := hB.out
  clear P hB HO HW0
  have hq0 : Hid (q 0 = q (B 0)) := Go.Lib.hid (by rw [hb0])
  replace hb0 := Go.Lib.hid hb0
  go_loopw [5, 6, 7, 8] (fun bv mv iv _ wr => ∃ k : Nat, 1 ≤ k ∧ k ≤ n ∧ bv = .int .i64 ((B (k - 1) : Nat) : Int) ∧ mv = .int .i64 (q (B (k - 1))) ∧ iv = .int .i64 k ∧ wr.heap[D]? = some (.cells (vrow (n * 266) (stF ss)) 39) ∧ Below w.heap.size w wr) (fun _ _ iv _ _ => 8 - (intOf iv).toNat)
  case atStart => exact ⟨1, by omega, by omega, by rw [show B (1 - 1) = 0 from hb0.out]; rfl, by rw [show B (1 - 1) = B 0 from rfl, ← hq0.out], rfl, p1, b1⟩
  case round =>
    clear p1 b1
    obtain ⟨k, hk1, hk, rfl, rfl, rfl, P, hB⟩ := hrel
    have hle1 := hle.out (k - 1)
    have hkk : k - 1 + 1 = k := by omega
    replace P := Go.Lib.hid P; replace hB := Go.Lib.hid hB
    by_cases hlt : k < n
    · have hkI : (k : Int) < (n : Int) := by omega
      have hk0 : (0 : Int) ≤ (k : Int) := by omega
      have hnl : (n : Int) ≤ 6 := by omega
      have HWk := Go.Lib.hid fun w h => HW.out k w hlt h
      have hst := hstep.out (k - 1)
      rw [hkk] at hst
      have HBK := Go.Lib.hid (show k + 1 - 1 = k by omega)
      replace hst := Go.Lib.hid hst
      clear hkk
      generalize hx : q k = x at HWk hst
      by_cases hqx : q (B (k - 1)) < x
      · have hbk := Go.Lib.hid (hst.out.1 hqx)
        have HX := Go.Lib.hid hx
        have hd1 : decide (x > q (B (k - 1))) = true := by simpa using hqx
        have hd2 : decide (q (B (k - 1)) < x) = true := by simpa using hqx
        clear hx hqx
        generalize q (B (k - 1)) = y at *
        go_wp2_with (first
          | go_skip
          | (go_at_call 66; (refine (HWk.out _ P.out).mono ?_); rintro o w3 ⟨rfl, hb⟩; replace P := Go.Lib.hid (row_next hb P.out); replace hB := Go.Lib.hid (below_next hB.out hb); clear hb))
        go_roundw
        case rel => exact ⟨k + 1, by omega, by omega, by rw [HBK.out, hbk.out], by rw [HBK.out, hbk.out, HX.out], by go_num, P.out, hB.out⟩
        case measure => simp [intOf]; omega
      · have hbk := Go.Lib.hid (hst.out.2 (by first | exact hqx | exact Int.not_lt.1 hqx))
        have hd1 : decide (x > q (B (k - 1))) = false := by simp; omega
        have hd2 : decide (q (B (k - 1)) < x) = false := by simp; omega
        clear hx hqx
        have hbe : B k = B (k - 1) := hbk.out
        have HBE := Go.Lib.hid hbe
        clear hbe
        generalize hp : B (k - 1) = p at *
        go_wp2_with (first
          | go_skip
          | (go_at_call 66; (refine (HWk.out _ P.out).mono ?_); rintro o w3 ⟨rfl, hb⟩; replace P := Go.Lib.hid (row_next hb P.out); replace hB := Go.Lib.hid (below_next hB.out hb); clear hb))
        go_roundw
        case rel => exact ⟨k + 1, by omega, by omega, by rw [HBK.out, HBE.out], by rw [HBK.out, HBE.out], by go_num, P.out, hB.out⟩
        case measure => simp [intOf]; omega
    · obtain rfl : k = n := by omega
      have hd : decide ((k : Int) < (k : Int)) = false := by simp
      go_wp2
      first | go_ret3 | go_ret
      exact ⟨rfl, hB.out⟩
end Go.Proofs.YtfhfiaphdgfmnaaDoor
