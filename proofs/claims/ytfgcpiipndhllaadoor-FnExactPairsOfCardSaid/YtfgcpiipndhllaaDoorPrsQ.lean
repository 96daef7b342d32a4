import Derived.StillTail
import Derived.StillTailTactics
import Derived.Test.YtfgcpiipndhllaaDoorPOff
import Derived.Test.YtfgcpiipndhllaaDoorPathE
import Derived.Test.YtfgcpiipndhllaaDoorQT
namespace Go.Proofs.YtfgcpiipndhllaaDoor
open Go.RowKit
set_option maxRecDepth 100000
set_option linter.unusedVariables false
set_option linter.unusedSimpArgs false
theorem PRO.next {w w' : World} {v : Value} {ax : Int} {d : Bool} {L : List Sp8} {B : Nat} (h : PRO w v ax d L B) (hb : Below w.heap.size w w') : PRO w' v ax d L B := by
  obtain ⟨ao, c, rfl, hr⟩ := h
  refine ⟨ao, c, rfl, hr.imp id ?_⟩
  rintro ⟨g, N, f, h1, h2, h3, h4, h5⟩
  exact ⟨g, N, f, h1, h2, h3, row_next hb h4, h5⟩
theorem PRO.set {w : World} {v : Value} {ax : Int} {d : Bool} {L : List Sp8} {B b : Nat} (h : PRO w v ax d L B) (hb : b < B) (cs : Array Value) : PRO (w.setRow b cs) v ax d L B := by
  obtain ⟨ao, c, rfl, hr⟩ := h
  refine ⟨ao, c, rfl, hr.imp id ?_⟩
  rintro ⟨g, N, f, h1, h2, h3, h4, h5⟩
  exact ⟨g, N, f, h1, h2, h3, row_set' (g := b) (by omega) h4 cs, h5⟩
theorem PRO.mono {w : World} {v : Value} {ax : Int} {d : Bool} {L : List Sp8} {B B' : Nat} (h : PRO w v ax d L B) (hb : B' ≤ B) : PRO w v ax d L B' := by
  obtain ⟨ao, c, rfl, hr⟩ := h
  refine ⟨ao, c, rfl, hr.imp id ?_⟩
  rintro ⟨g, N, f, h1, h2, h3, h4, h5⟩
  exact ⟨g, N, f, h1, by omega, h3, h4, h5⟩
theorem PRO.nil (w : World) (ax : Int) (d : Bool) (B : Nat) : PRO w (.slice none 0 0) ax d [] B := ⟨none, 0, rfl, .inl rfl⟩
def p4x (x u : Int) (m : Nat) : Int := if m = 0 then x else u
theorem p4_two (x y u v : Int) (m : Nat) (hm : m < 2) : (vrow 2 fun q => p4 x y u v (m * 2 + q)) = #[.int .i8 (p4x x u m), .int .i8 (p4x y v m)] := by
  have : m = 0 ∨ m = 1 := by omega
  rcases this with rfl | rfl <;> rfl
set_option maxHeartbeats 2000000 in
theorem eqA2_any (x y u v : Int) (w : World) : Calls Tryd.prog 108 #[.agg (vrow 4 (p4 x y u v)), .agg (vrow 4 (p4 x y u v))] w fun e w' => e = .returned (.bool true) ∧ Below w.heap.size w w' := by
  have P : Hid (((w.alloc (.cells (vrow 4 (p4 x y u v)) 169)).alloc (.cells (vrow 4 (p4 x y u v)) 169)).heap[w.heap.size]? = some (.cells (vrow 4 (p4 x y u v)) 169)) := (heap_past _ _ _ _ (by simp <;> omega) (heap_at _ _ _ (by simp)))
  have R : Hid (((w.alloc (.cells (vrow 4 (p4 x y u v)) 169)).alloc (.cells (vrow 4 (p4 x y u v)) 169)).heap[w.heap.size + 1]? = some (.cells (vrow 4 (p4 x y u v)) 169)) := (heap_at _ _ _ (by simp))
  have hB : Hid (Below w.heap.size w ((w.alloc (.cells (vrow 4 (p4 x y u v)) 169)).alloc (.cells (vrow 4 (p4 x y u v)) 169))) := Go.Lib.hid (((Below.refl w.heap.size w).alloc (by simp <;> omega) _).alloc (by simp <;> omega) _)
  go_enter Tryd.func108, Tryd.ntmps108
  go_wp2
  have P0 := P.out; have R0 := R.out; have B0 := hB.out
  clear P R hB
  go_loopw [5] (fun iv wr => ∃ m : Nat, m ≤ 2 ∧ iv = .int .i64 m ∧ wr.heap[w.heap.size]? = some (.cells (vrow 4 (p4 x y u v)) 169) ∧ wr.heap[w.heap.size + 1]? = some (.cells (vrow 4 (p4 x y u v)) 169) ∧ Below w.heap.size w wr) (fun iv _ => 2 - (intOf iv).toNat)
  case atStart => exact ⟨0, by omega, rfl, P0, R0, B0⟩
  case round =>
    clear P0 R0 B0
    obtain ⟨m, hm, rfl, P, R, hB⟩ := hrel
    replace P := Go.Lib.hid P; replace R := Go.Lib.hid R; replace hB := Go.Lib.hid hB
    by_cases hlt : m < 2
    · have hmI : (m : Int) < 2 := by omega
      have hm0 : (0 : Int) ≤ (m : Int) := by omega
      have hmd : decide ((m : Int) < 2) = true := by simpa using hmI
      have H2 := Go.Lib.hid (p4_two x y u v m hlt)
      have HE := Go.Lib.hid fun w => eqSp_any (p4x x u m) (p4x y v m) w
      generalize p4x x u m = cx at *
      generalize p4x y v m = cy at *
      go_wp2
      refine region_at (by kernel_rfl) (by kernel_rfl) ?_
      intro W hW
      rw [hW] at hB P R
      clear hW
      have P' := Go.Lib.hid (cls_row' P.out); have R' := Go.Lib.hid (cls_row' R.out)
      (repeat (first
        | go_big_quiet_skip
        | (refine wpQuiet_loadmid 33 (.tmp 11) rfl (by first | exact want_n rfl | exact want_g _ _ _ rfl rfl rfl) w.heap.size (m * 2) rfl 4 2 (p4 x y u v) _ rw_spot size_spot P'.out (by omega) ?_; rw [H2.out]; simp only [Act.put, List.setIfInBounds_toArray, List.set_cons_succ, List.set_cons_zero])
        | (refine wpQuiet_loadmid 33 (.tmp 14) rfl (by first | exact want_n rfl | exact want_g _ _ _ rfl rfl rfl) (w.heap.size + 1) (m * 2) rfl 4 2 (p4 x y u v) _ rw_spot size_spot R'.out (by omega) ?_; rw [H2.out]; simp only [Act.put, List.setIfInBounds_toArray, List.set_cons_succ, List.set_cons_zero])
        | go_big_quiet_step ((go_at_call 17; exact cls_call _ (fun w hw => HE.out w)))))
      refine wpQuiet_nil ?_
      intro Wn hb
      replace P := Go.Lib.hid (row_next hb P.out); replace R := Go.Lib.hid (row_next hb R.out); replace hB := Go.Lib.hid (below_next hB.out hb)
      clear hb P' R'
      go_wp2
      go_roundw
      case rel => exact ⟨m + 1, by omega, by go_num, P.out, R.out, hB.out⟩
      case measure => simp [intOf]; omega
    · obtain rfl : m = 2 := by omega
      have hmd : decide (((2 : Nat) : Int) < 2) = false := by simp
      go_wp2
      go_ret
      exact ⟨rfl, hB.out⟩
set_option maxHeartbeats 2000000 in
theorem eqA2S_any (v1 v2 : Value) (ax : Int) (d : Bool) (L : List Sp8) (B1 B2 : Nat) (w : World) (hn : L.length ≤ 64) (h1 : PRO w v1 ax d L B1) (h2 : PRO w v2 ax d L B2) : Calls Tryd.prog 50 #[v1, v2] w fun e w' => e = .returned (.bool true) ∧ Below w.heap.size w w' := by
  obtain ⟨a1, c1, rfl, hr1⟩ := h1
  obtain ⟨a2, c2, rfl, hr2⟩ := h2
  go_enter Tryd.func50, Tryd.ntmps50
  go_wp2
  go_loopw [5] (fun iv wr => ∃ k : Nat, k ≤ L.length ∧ iv = .int .i64 k ∧ Below w.heap.size w wr) (fun iv _ => L.length - (intOf iv).toNat)
  case atStart => exact ⟨0, by omega, rfl, Below.refl _ _⟩
  case round =>
    obtain ⟨k, hk, rfl, hB⟩ := hrel
    by_cases hlt : k < L.length
    · rcases hr1 with h0 | ⟨g1, N1, f1, rfl, _, hN1, hrow1, hf1⟩
      · omega
      rcases hr2 with h0 | ⟨g2, N2, f2, rfl, _, hN2, hrow2, hf2⟩
      · omega
      have R1 := Go.Lib.hid (row_next hB hrow1); have R2 := Go.Lib.hid (row_next hB hrow2)
      have H1 := Go.Lib.hid (hf1 k hlt); have H2 := Go.Lib.hid (hf2 k hlt)
      clear hrow1 hrow2 hf1 hf2
      have HE := Go.Lib.hid fun w => eqA2_any (L[k]'hlt).1.1 (L[k]'hlt).1.2 (prX ax d (L[k]'hlt).1.1) (prY ax d (L[k]'hlt).1.2) w
      obtain ⟨F, hF⟩ : ∃ F, p4 (L[k]'hlt).1.1 (L[k]'hlt).1.2 (prX ax d (L[k]'hlt).1.1) (prY ax d (L[k]'hlt).1.2) = F := ⟨_, rfl⟩
      rw [hF] at H1 H2 HE
      clear hF
      replace hB := Go.Lib.hid hB
      have hkI : (k : Int) < (L.length : Int) := by omega
      have hk0 : (0 : Int) ≤ (k : Int) := by omega
      have hkd : decide ((k : Int) < (L.length : Int)) = true := by simpa using hkI
      go_wp2
      refine wp_region_still_tail 8 (by kernel_rfl) (by kernel_rfl) ?_
      simp only [List.take_succ_cons, List.take_zero, List.drop_succ_cons, List.drop_zero, World.drew_eq]
      repeat (first
        | (refine wpStill_loadmid rfl 169 (.tmp 19) rfl g1 (k * 4) rfl N1 4 f1 169 _ Tryd.underlying169 rfl size_prtP R1.out (by omega) ?_; rw [H1.out]; (try simp only [Act.put, List.setIfInBounds_toArray, List.set_cons_succ, List.set_cons_zero]))
        | (refine wpStill_loadmid rfl 169 (.tmp 23) rfl g2 (k * 4) rfl N2 4 f2 169 _ Tryd.underlying169 rfl size_prtP R2.out (by omega) ?_; rw [H2.out]; (try simp only [Act.put, List.setIfInBounds_toArray, List.set_cons_succ, List.set_cons_zero]))
        | still_step)
      refine wpStill_nil ?_
      replace hB := Go.Lib.hid (hB.out.drew)
      clear R1 R2
      generalize World.drew _ = W2 at hB ⊢
      go_wp2_with (first
        | go_skip
        | (go_at_call 108; (refine (HE.out _).mono ?_); rintro o w1 ⟨rfl, hb⟩; replace hB := Go.Lib.hid (below_next hB.out hb); clear hb))
      go_roundw
      case rel => exact ⟨k + 1, by omega, by go_num, hB.out⟩
      case measure => simp [intOf]; omega
    · obtain rfl : k = L.length := by omega
      have hkd : decide ((L.length : Int) < (L.length : Int)) = false := by simp
      replace hB := Go.Lib.hid hB
      go_wp2
      go_ret
      exact ⟨rfl, hB.out⟩
set_option maxHeartbeats 1000000 in
theorem mark2_any (ao : Option Addr) (n cap : Nat) (q : Int) (w : World) (hn : n ≤ 64) : Calls Tryd.prog 51 #[.slice ao n cap, .int .i64 q] w fun e w' => e = .returned (.int .i64 q) ∧ Below w.heap.size w w' := by
  go_enter Tryd.func51, Tryd.ntmps51
  go_wp2
  go_loopw [5] (fun iv wr => ∃ k : Nat, k ≤ n ∧ iv = .int .i64 k ∧ Below w.heap.size w wr) (fun iv _ => n - (intOf iv).toNat)
  case atStart => exact ⟨0, by omega, rfl, Below.refl _ _⟩
  case round =>
    obtain ⟨k, hk, rfl, hB⟩ := hrel
    replace hB := Go.Lib.hid hB
    by_cases hlt : k < n
    · have hkI : (k : Int) < (n : Int) := by omega
      have hkd : decide ((k : Int) < (n : Int)) = true := by simpa using hkI
      go_wp2
      go_roundw
      case rel => exact ⟨k + 1, by omega, by go_num, hB.out⟩
      case measure => simp [intOf]; omega
    · obtain rfl : k = n := by omega
      have hkd : decide ((k : Int) < (k : Int)) = false := by simp
      go_wp2
      go_ret
      exact ⟨rfl, hB.out⟩
set_option maxHeartbeats 1000000 in
theorem held2_any (ao : Option Addr) (n cap : Nat) (q : Int) (w : World) (hn : n ≤ 64) : Calls Tryd.prog 52 #[.slice ao n cap, .int .i64 q] w fun e w' => e = .returned (.int .i64 q) ∧ Below w.heap.size w w' := by
  go_enter Tryd.func52, Tryd.ntmps52
  go_wp2
  go_loopw [5] (fun iv wr => ∃ k : Nat, k ≤ n ∧ iv = .int .i64 k ∧ Below w.heap.size w wr) (fun iv _ => n - (intOf iv).toNat)
  case atStart => exact ⟨0, by omega, rfl, Below.refl _ _⟩
  case round =>
    obtain ⟨k, hk, rfl, hB⟩ := hrel
    replace hB := Go.Lib.hid hB
    by_cases hlt : k < n
    · have hkI : (k : Int) < (n : Int) := by omega
      have hkd : decide ((k : Int) < (n : Int)) = true := by simpa using hkI
      go_wp2
      go_roundw
      case rel => exact ⟨k + 1, by omega, by go_num, hB.out⟩
      case measure => simp [intOf]; omega
    · obtain rfl : k = n := by omega
      have hkd : decide ((k : Int) < (k : Int)) = false := by simp
      go_wp2
      go_ret
      exact ⟨rfl, hB.out⟩
end Go.Proofs.YtfgcpiipndhllaaDoor
