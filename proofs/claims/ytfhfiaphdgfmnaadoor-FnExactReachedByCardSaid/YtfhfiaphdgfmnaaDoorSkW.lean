import Derived.Deep.RegionHeld3
import Derived.Test.YtfhfiaphdgfmnaaDoorSkV
namespace Go.Proofs.YtfhfiaphdgfmnaaDoor
open Go.RowKit
set_option maxRecDepth 100000
set_option linter.unusedVariables false
set_option linter.unusedSimpArgs false
/-- one of the first k has it -/
def anyN (pb : Nat → Bool) : Nat → Bool
  | 0 => false
  | k + 1 => anyN pb k || pb k
theorem anyN_some {pb : Nat → Bool} {i : Nat} (h : pb i = true) : ∀ k, i < k → anyN pb k = true
  | 0, h0 => by omega
  | k + 1, h0 => by
    show (anyN pb k || pb k) = true
    by_cases he : i = k
    · rw [← he, h]; simp
    · rw [anyN_some h k (by omega)]; rfl
theorem anyN_none {pb : Nat → Bool} : ∀ k, (∀ i, i < k → pb i = false) → anyN pb k = false
  | 0, _ => rfl
  | k + 1, h => by
    show (anyN pb k || pb k) = false
    rw [anyN_none k (fun i hi => h i (by omega)), h k (by omega)]; rfl
theorem anyN_ex {pb : Nat → Bool} : ∀ k, anyN pb k = true → ∃ i, i < k ∧ pb i = true
  | 0, h => by cases h
  | k + 1, h => by
    cases hk : anyN pb k
    · have h2 : (anyN pb k || pb k) = true := h
      rw [hk] at h2
      exact ⟨k, by omega, by simpa using h2⟩
    · obtain ⟨i, hi, hp⟩ := anyN_ex k hk
      exact ⟨i, by omega, hp⟩
set_option maxHeartbeats 4000000 in
theorem ixK_any (ss : Nat → Sh) (D n cp : Nat) (pb : Nat → Bool) (F : FuncId) (fs lb : Array Value) (w : World) (hn : n ≤ 1048576) (hr : w.heap[D]? = some (.cells (vrow (n * 266) (stF ss)) 39))
    (hF : ∀ (xs : Array Value) (w : World), (callFunc F xs).run Tryd.prog w = .ok (.enter F xs) w)
    (hC : ∀ i W, i < n → Below w.heap.size w W → Calls Tryd.prog F (fs.push (.agg (vrow 266 (ss i).at)) ++ lb) W fun e w' => e = .returned (.bool (pb i)) ∧ Below W.heap.size W w') :
    Calls Tryd.prog 123 #[.slice (some ⟨D, 0, none⟩) n cp, .func (.func F) fs lb] w fun e w' => (∃ r : Int, e = .returned (.int .i64 r) ∧ decide (0 ≤ r) = anyN pb n) ∧ Below w.heap.size w w' := by
  have HC := Go.Lib.hid hC
  have HF := Go.Lib.hid hF
  clear hC hF
  have hB := Go.Lib.hid (Below.refl w.heap.size w)
  go_enter Tryd.func123, Tryd.ntmps123
  go_wp2
  have B0 := hB.out
  clear hB
  go_loopw [8] (fun iv wr => ∃ k : Nat, k ≤ n ∧ iv = .int .i64 k ∧ (∀ i, i < k → pb i = false) ∧ Below w.heap.size w wr) (fun iv _ => n - (intOf iv).toNat)
  case atStart => exact ⟨0, by omega, rfl, fun i hi => by omega, B0⟩
  case round =>
    clear B0
    obtain ⟨k, hk, rfl, hno, hB⟩ := hrel
    by_cases hlt : k < n
    · have hkI : (k : Int) < (n : Int) := by omega
      have hk0 : (0 : Int) ≤ (k : Int) := by omega
      have hkd : decide ((k : Int) < (n : Int)) = true := by simpa using hkI
      have Gr : Hid (wr.heap[D]? = some (.cells (vrow (n * 266) (stF ss)) 39)) := Go.Lib.hid ((hB.block D (row_lt hr)).trans hr)
      have HR := Go.Lib.hid (stF_row ss k)
      have HCk := Go.Lib.hid fun W h => HC.out k W hlt h
      have hno2 := hno
      have HNO := Go.Lib.hid hno
      clear hno
      replace hB := Go.Lib.hid hB
      generalize hpk : pb k = bk at *
      generalize ss k = sk at HR HCk
      have HPK := Go.Lib.hid hpk
      clear hpk
      go_wp2_with (first
        | go_skip
        | ((with_reducible refine wlAt 15 rfl ?_); refine wpList_loadmid rfl 39 (.tmp 14) rfl D (k * 266) rfl (n * 266) 266 (stF ss) 39 _ Tryd.underlying39 rfl size_sheet Gr.out (by omega) ?_; rw [HR.out]))
      rw [HF.out]
      simp only [Oper.upon]
      refine (HCk.out _ hB.out).mono ?_
      rintro e w1 ⟨rfl, hb⟩
      replace hB := Go.Lib.hid (below_next hB.out hb)
      clear hb
      simp only [Act.put, List.setIfInBounds_toArray, List.set_cons_succ, List.set_cons_zero]
      cases bk
      · go_wp2
        go_roundw
        case rel => exact ⟨k + 1, by omega, by go_num, fun i hi9 => by
          by_cases he : i = k
          · rw [he]; exact HPK.out
          · exact HNO.out i (by omega), hB.out⟩
        case measure => simp [intOf]; omega
      · go_wp2
        go_ret
        exact ⟨⟨(k : Int), rfl, by rw [anyN_some HPK.out n hlt]; simp⟩, hB.out⟩
    · obtain rfl : k = n := by omega
      have hkd : decide ((k : Int) < (k : Int)) = false := by simp
      go_wp2
      go_ret
      exact ⟨⟨-1, rfl, by rw [anyN_none k hno]; rfl⟩, hB⟩
set_option maxHeartbeats 2000000 in
theorem coK_any (ss : Nat → Sh) (D n cp : Nat) (pb : Nat → Bool) (F : FuncId) (fs lb : Array Value) (w : World) (hn : n ≤ 1048576) (hr : w.heap[D]? = some (.cells (vrow (n * 266) (stF ss)) 39))
    (hF : ∀ (xs : Array Value) (w : World), (callFunc F xs).run Tryd.prog w = .ok (.enter F xs) w)
    (hC : ∀ i W, i < n → Below w.heap.size w W → Calls Tryd.prog F (fs.push (.agg (vrow 266 (ss i).at)) ++ lb) W fun e w' => e = .returned (.bool (pb i)) ∧ Below W.heap.size W w') :
    Calls Tryd.prog 119 #[.slice (some ⟨D, 0, none⟩) n cp, .func (.func F) fs lb] w fun e w' => e = .returned (.bool (anyN pb n)) ∧ Below w.heap.size w w' := by
  have HI := Go.Lib.hid (ixK_any ss D n cp pb F fs lb w hn hr hF hC)
  clear hC hr hF
  generalize anyN pb n = an at *
  go_enter Tryd.func119, Tryd.ntmps119
  go_wp2_with (first
    | go_skip
    | (go_at_call 123; (refine HI.out.mono ?_); rintro o w1 ⟨⟨r, rfl, hrr⟩, hb⟩))
  go_ret
  exact ⟨by rw [← hrr]; rfl, hb⟩
theorem few_any (a : Option Addr) (n cp : Nat) (w : World) : Calls Tryd.prog 114 #[.slice a n cp] w fun e w' => e = .returned (.bool (decide (n ≤ 6))) ∧ Below w.heap.size w w' := by
  have h6 : decide ((n : Int) ≤ 6) = decide (n ≤ 6) := by simp; omega
  go_enter Tryd.func114, Tryd.ntmps114
  go_wp2
  go_ret
  exact ⟨by rw [← h6]; rfl, Below.refl _ _⟩
theorem val1_any (s : Sh) (w : World) (hf : s.fit) : Calls Tryd.prog 120 #[.agg (vrow 266 s.at)] w fun e w' => e = .returned (.bool (!okI s)) ∧ Below w.heap.size w w' := by
  have HV := Go.Lib.hid fun w => implV_any s w (.inr hf)
  have P : Hid ((w.alloc (.cells (vrow 266 s.at) 39)).heap[w.heap.size]? = some (.cells (vrow 266 s.at) 39)) := heap_at _ _ _ (by simp)
  have hB : Hid (Below w.heap.size w (w.alloc (.cells (vrow 266 s.at) 39))) := Go.Lib.hid ((Below.refl w.heap.size w).alloc (by simp <;> omega) _)
  generalize okI s = b at *
  go_enter Tryd.func120, Tryd.ntmps120
  go_wp2_with (first
    | go_skip
    | ((with_reducible refine wlAt 3 rfl ?_); refine wpList_loadall rfl 39 (.tmp 1) rfl _ rfl 266 s.at 39 _ Tryd.underlying39 rfl size_sheet P.out ?_)
    | (go_at_call 81; (refine (HV.out _).mono ?_); rintro o w1 ⟨rfl, hb⟩; replace hB := Go.Lib.hid (below_next hB.out hb); clear hb))
  go_ret
  exact ⟨rfl, hB.out⟩
theorem allV_any (ss : Nat → Sh) (D n cp : Nat) (w : World) (hn : n ≤ 1048576) (hf : ∀ i, (ss i).fit) (h1 : w.heap[D]? = some (.cells (vrow (n * 266) (stF ss)) 39)) : Calls Tryd.prog 115 #[.slice (some ⟨D, 0, none⟩) n cp] w fun e w' => e = .returned (.bool (!anyN (fun k => !okI (ss k)) n)) ∧ Below w.heap.size w w' := by
  have HC := Go.Lib.hid (coK_any ss D n cp (fun k => !okI (ss k)) 120 #[] #[] w hn h1 (fun _ _ => by kernel_rfl) fun i W _ _ => val1_any (ss i) W (hf i))
  generalize anyN (fun k => !okI (ss k)) n = b at *
  go_enter Tryd.func115, Tryd.ntmps115
  go_wp2_with (first
    | go_skip
    | (go_at_call 119; (refine HC.out.mono ?_); rintro o w1 ⟨rfl, hb⟩; have hB := Go.Lib.hid hb; clear hb))
  go_ret
  exact ⟨rfl, hB.out⟩
theorem rw_stk : (Tryd.prog.underlying 35).map (·.isRow) = some false := by kernel_rfl
theorem size_stk : (Tryd.prog.info? 35).map (·.size) = some 1 := by kernel_rfl
set_option maxHeartbeats 2000000 in
theorem alk1_any (s : Sh) (ss : Nat → Sh) (D n cp B : Nat) (w : World) (h0 : 0 < n) (hn : n ≤ 1048576) (h1 : w.heap[D]? = some (.cells (vrow (n * 266) (stF ss)) 39)) (h2 : w.heap[B]? = some (.cells (vrow 1 fun _ => .slice (some ⟨D, 0, none⟩) n cp) 35)) : Calls Tryd.prog 121 #[.agg (vrow 266 s.at), .pointer (some ⟨B, 0, none⟩)] w fun e w' => e = .returned (.bool (!alikeB s (ss 0))) ∧ Below w.heap.size w w' := by
  have HS := Go.Lib.hid fun w => same_any s (ss 0) w
  have HR : Hid (vrow 266 (fun j => stF ss (0 + j)) = vrow 266 (ss 0).at) := Go.Lib.hid (by have h := stF_row ss 0; rwa [Nat.zero_mul] at h)
  generalize ss 0 = s0 at HS HR
  generalize alikeB s s0 = b at *
  have hnI : (0 : Int) < (n : Int) := by omega
  have P : Hid ((w.alloc (.cells (vrow 266 s.at) 39)).heap[w.heap.size]? = some (.cells (vrow 266 s.at) 39)) := heap_at _ _ _ (by simp)
  have R : Hid ((w.alloc (.cells (vrow 266 s.at) 39)).heap[D]? = some (.cells (vrow (n * 266) (stF ss)) 39)) := Go.Lib.hid (heap_past _ _ _ _ (row_lt h1) h1)
  have L : Hid ((w.alloc (.cells (vrow 266 s.at) 39)).heap[B]? = some (.cells (vrow 1 fun _ => .slice (some ⟨D, 0, none⟩) n cp) 35)) := Go.Lib.hid (heap_past _ _ _ _ (row_lt h2) h2)
  have hB : Hid (Below w.heap.size w (w.alloc (.cells (vrow 266 s.at) 39))) := Go.Lib.hid ((Below.refl w.heap.size w).alloc (by simp <;> omega) _)
  clear h1 h2
  go_enter Tryd.func121, Tryd.ntmps121
  go_wp2
  refine region_at (by kernel_rfl) (by kernel_rfl) ?_
  intro W hW
  rw [hW] at hB P R L
  clear hW
  have P' := Go.Lib.hid (cls_row' P.out); have R' := Go.Lib.hid (cls_row' R.out); have L' := Go.Lib.hid (cls_row' L.out)
  (repeat (first
    | go_big_quiet_skip
    | (refine wpQuiet_loadmid 39 (.tmp 2) rfl (by first | exact want_n rfl | exact want_g _ _ _ rfl rfl rfl) (w.heap.size) _ rfl 266 266 s.at _ rw_sheet size_sheet P'.out (by omega) ?_; rw [sh_row]; simp only [Act.put, List.setIfInBounds_toArray, List.set_cons_succ, List.set_cons_zero])
    | (refine wpQuiet_load1 35 (.tmp 1) rfl (by first | exact want_n rfl | exact want_g _ _ _ rfl rfl rfl) B _ rfl 1 _ _ rw_stk L'.out (by omega) ?_; simp only [Act.put, List.setIfInBounds_toArray, List.set_cons_succ, List.set_cons_zero])
    | (refine wpQuiet_loadmid 39 (.tmp 6) rfl (by first | exact want_n rfl | exact want_g _ _ _ rfl rfl rfl) D _ rfl (n * 266) 266 (stF ss) _ rw_sheet size_sheet R'.out (by omega) ?_; rw [HR.out]; simp only [Act.put, List.setIfInBounds_toArray, List.set_cons_succ, List.set_cons_zero])
    | go_big_quiet_step ((go_at_call 82; exact cls_call _ (fun w hw => HS.out w)))))
  refine wpQuiet_nil ?_
  intro Wn hb
  replace hB := Go.Lib.hid (below_next hB.out hb)
  clear hb
  go_wp2
  go_ret
  exact ⟨rfl, hB.out⟩
set_option maxHeartbeats 2000000 in
theorem allA_any (ss : Nat → Sh) (D n cp : Nat) (w : World) (hn : n ≤ 1048576) (h1 : w.heap[D]? = some (.cells (vrow (n * 266) (stF ss)) 39)) : Calls Tryd.prog 116 #[.slice (some ⟨D, 0, none⟩) n cp] w fun e w' => e = .returned (.bool (!anyN (fun k => !alikeB (ss k) (ss 0)) n)) ∧ Below w.heap.size w w' := by
  have P : Hid ((w.alloc (.cells (vrow 1 fun _ => .slice (some ⟨D, 0, none⟩) n cp) 35)).heap[w.heap.size]? = some (.cells (vrow 1 fun _ => .slice (some ⟨D, 0, none⟩) n cp) 35)) := heap_at _ _ _ (by simp)
  have R : Hid ((w.alloc (.cells (vrow 1 fun _ => .slice (some ⟨D, 0, none⟩) n cp) 35)).heap[D]? = some (.cells (vrow (n * 266) (stF ss)) 39)) := Go.Lib.hid (heap_past _ _ _ _ (row_lt h1) h1)
  have hB : Hid (Below w.heap.size w (w.alloc (.cells (vrow 1 fun _ => .slice (some ⟨D, 0, none⟩) n cp) 35))) := Go.Lib.hid ((Below.refl w.heap.size w).alloc (by simp <;> omega) _)
  have HC := Go.Lib.hid fun w' h1 h2 => coK_any ss D n cp (fun k => !alikeB (ss k) (ss 0)) 121 #[] #[.pointer (some ⟨w.heap.size, 0, none⟩)] w' hn h1 (fun _ _ => by kernel_rfl) fun i W hi hb => alk1_any (ss i) ss D n cp w.heap.size W (by omega) hn (row_next hb h1) (row_next hb h2)
  have hmf : ∀ (fn : Fn) (first cap : Array Value) (w : World), (Instr.makeFunc fn first cap).run Tryd.prog w = .ok (.func fn first cap) w := fun _ _ _ _ => rfl
  generalize anyN (fun k => !alikeB (ss k) (ss 0)) n = b at *
  clear h1
  go_enter Tryd.func116, Tryd.ntmps116
  go_wp2_with (first
    | go_skip
    | ((with_reducible refine wlAt 3 rfl ?_); refine wpList_load1 rfl 35 (.tmp 1) rfl _ 0 rfl 1 (fun _ => .slice (some ⟨D, 0, none⟩) n cp) 35 _ Tryd.underlying35 rfl P.out (by omega) ?_)
    | (go_at_call 119; (refine (HC.out _ R.out P.out).mono ?_); rintro o w1 ⟨rfl, hb⟩; replace hB := Go.Lib.hid (below_next hB.out hb); clear hb))
  go_ret
  exact ⟨rfl, hB.out⟩
end Go.Proofs.YtfhfiaphdgfmnaaDoor
