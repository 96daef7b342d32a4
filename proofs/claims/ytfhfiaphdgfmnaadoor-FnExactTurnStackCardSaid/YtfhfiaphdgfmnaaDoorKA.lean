import Derived.Test.YtfhfiaphdgfmnaaDoorStS
import Derived.Deep.RegionHeld3
import Derived.Test.YtfhfiaphdgfmnaaDoorSameZ
import Derived.Test.YtfhfiaphdgfmnaaDoorImplV
import Derived.Test.YtfhfiaphdgfmnaaDoorOkEq
namespace Go.Proofs.YtfhfiaphdgfmnaaDoor
open Go.RowKit
set_option maxRecDepth 100000
set_option linter.unusedVariables false
set_option linter.unusedSimpArgs false
/-- all of the first n -/
def alN (q : Nat → Bool) : Nat → Bool
  | 0 => true
  | k + 1 => alN q k && q k
theorem alN_no {q : Nat → Bool} {k : Nat} (h : q k = false) : ∀ n, k < n → alN q n = false
  | 0, h0 => by omega
  | n + 1, h0 => by
    show (alN q n && q n) = false
    by_cases he : k = n
    · rw [← he, h, Bool.and_false]
    · rw [alN_no h n (by omega)]; rfl
end Go.Proofs.YtfhfiaphdgfmnaaDoor
namespace Go.Proofs.YtfhfiaphdgfmnaaDoor
open Go.RowKit
set_option maxRecDepth 100000
set_option linter.unusedVariables false
set_option linter.unusedSimpArgs false
/-- a stack is valid -/
def stOne (ss : Nat → Sh) (k : Nat) : Bool := okB (ss k) && alikeB (ss k) (ss 0)
def stOk (ss : Nat → Sh) (n : Nat) : Bool := alN (stOne ss) n && decide (n ≤ 6)
set_option maxHeartbeats 8000000 in
theorem lok5_any (ss : Nat → Sh) (D n cp : Nat) (w : World) (hn : n ≤ 1048576) (hf : ∀ i, (ss i).fit) (h1 : w.heap[D]? = some (.cells (vrow (n * 266) (stF ss)) 39)) : Calls Tryd.prog 38 #[.slice (some ⟨D, 0, none⟩) n cp] w fun e w' => e = .returned (.bool (stOk ss n)) ∧ Below w.heap.size w w' := by
  have P := Go.Lib.hid h1
  have hB := Go.Lib.hid (Below.refl w.heap.size w)
  clear h1
  have F0 := Go.Lib.hid (stF_sub ss 0)
  go_enter Tryd.func38, Tryd.ntmps38
  go_wp2
  go_loopw [3] (fun iv wr => ∃ k : Nat, k ≤ n ∧ iv = .int .i64 k ∧ alN (stOne ss) k = true ∧ wr.heap[D]? = some (.cells (vrow (n * 266) (stF ss)) 39) ∧ Below w.heap.size w wr) (fun iv _ => n - (intOf iv).toNat)
  case atStart => exact ⟨0, by omega, rfl, rfl, P.out, hB.out⟩
  case round =>
    clear P hB
    obtain ⟨k, hk, rfl, hal, P, hB⟩ := hrel
    have HAL := Go.Lib.hid hal
    clear hal
    replace P := Go.Lib.hid P; replace hB := Go.Lib.hid hB
    by_cases hlt : k < n
    · have hkI : (k : Int) < (n : Int) := by omega
      have h0I : (0 : Int) < (n : Int) := by omega
      have hnl : (n : Int) ≤ 1048576 := by omega
      have FK := Go.Lib.hid (stF_sub ss k)
      have HO := Go.Lib.hid fun w h => ok_fromO w (ss k) D (k * 266) (n * 266) (stF ss) (by omega) FK.out w h (hf k) (Below.refl _ _)
      obtain ⟨b, hb0⟩ : ∃ b, okB (ss k) = b := ⟨_, rfl⟩
      rw [hb0] at HO
      have HOK := Go.Lib.hid hb0
      clear hb0
      have hone : stOne ss k = (okB (ss k) && ((ss k).wide == (ss 0).wide && (ss k).high == (ss 0).high)) := rfl
      rw [HOK.out] at hone
      generalize ss k = sk at FK hone
      generalize ss 0 = s0 at F0 hone
      replace hone := Go.Lib.hid hone
      cases b
      · go_wp2
        (refine region_at (by kernel_rfl) (by kernel_rfl) ?_; intro W hW; rw [hW] at hB P; clear hW; have P' := Go.Lib.hid (cls_row' P.out); (repeat (first | go_big_quiet_skip | (refine wpQuiet_load1 23 _ rfl (by first | exact want_n rfl | exact want_g _ _ _ rfl rfl rfl) D _ rfl (n * 266) (stF ss) _ rw_i8 P'.out (by omega) ?_; (first | rw [SubAt.p0 FK.out _ (by omega)] | rw [SubAt.p1 FK.out _ (by omega)] | rw [SubAt.p0 F0.out _ (by omega)] | rw [SubAt.p1 F0.out _ (by omega)]); simp only [Act.put, List.setIfInBounds_toArray, List.set_cons_succ, List.set_cons_zero]) | go_big_quiet_step ((go_at_call 39; exact cls_call _ (fun w hw => HO.out w (row_next hw P.out)))))); refine wpQuiet_nil ?_; intro Wn hb; replace P := Go.Lib.hid (row_next hb P.out); replace hB := Go.Lib.hid (below_next hB.out hb); clear hb P')
        go_wp2
        go_ret
        exact ⟨by rw [show stOk ss n = false by unfold stOk; rw [alN_no hone.out n hlt]; rfl]; rfl, hB.out⟩
      · by_cases h1 : sk.wide = s0.wide
        · have t1 : (sk.wide == s0.wide) = true := by simpa using h1
          have t2 : (sk.wide != s0.wide) = false := by simpa using h1
          by_cases h2 : sk.high = s0.high
          · have t3 : (sk.high == s0.high) = true := by simpa using h2
            have t4 : (sk.high != s0.high) = false := by simpa using h2
            clear h1 h2
            go_wp2
            (refine region_at (by kernel_rfl) (by kernel_rfl) ?_; intro W hW; rw [hW] at hB P; clear hW; have P' := Go.Lib.hid (cls_row' P.out); (repeat (first | go_big_quiet_skip | (refine wpQuiet_load1 23 _ rfl (by first | exact want_n rfl | exact want_g _ _ _ rfl rfl rfl) D _ rfl (n * 266) (stF ss) _ rw_i8 P'.out (by omega) ?_; (first | rw [SubAt.p0 FK.out _ (by omega)] | rw [SubAt.p1 FK.out _ (by omega)] | rw [SubAt.p0 F0.out _ (by omega)] | rw [SubAt.p1 F0.out _ (by omega)]); simp only [Act.put, List.setIfInBounds_toArray, List.set_cons_succ, List.set_cons_zero]) | go_big_quiet_step ((go_at_call 39; exact cls_call _ (fun w hw => HO.out w (row_next hw P.out)))))); refine wpQuiet_nil ?_; intro Wn hb; replace P := Go.Lib.hid (row_next hb P.out); replace hB := Go.Lib.hid (below_next hB.out hb); clear hb P')
            go_wp2
            go_roundw
            case rel => exact ⟨k + 1, by omega, by go_num, by show (alN (stOne ss) k && stOne ss k) = true; rw [HAL.out, hone.out, t1, t3]; rfl, P.out, hB.out⟩
            case measure => simp [intOf]; omega
          · have t3 : (sk.high == s0.high) = false := by simpa using h2
            have t4 : (sk.high != s0.high) = true := by simpa using h2
            clear h1 h2
            go_wp2
            (refine region_at (by kernel_rfl) (by kernel_rfl) ?_; intro W hW; rw [hW] at hB P; clear hW; have P' := Go.Lib.hid (cls_row' P.out); (repeat (first | go_big_quiet_skip | (refine wpQuiet_load1 23 _ rfl (by first | exact want_n rfl | exact want_g _ _ _ rfl rfl rfl) D _ rfl (n * 266) (stF ss) _ rw_i8 P'.out (by omega) ?_; (first | rw [SubAt.p0 FK.out _ (by omega)] | rw [SubAt.p1 FK.out _ (by omega)] | rw [SubAt.p0 F0.out _ (by omega)] | rw [SubAt.p1 F0.out _ (by omega)]); simp only [Act.put, List.setIfInBounds_toArray, List.set_cons_succ, List.set_cons_zero]) | go_big_quiet_step ((go_at_call 39; exact cls_call _ (fun w hw => HO.out w (row_next hw P.out)))))); refine wpQuiet_nil ?_; intro Wn hb; replace P := Go.Lib.hid (row_next hb P.out); replace hB := Go.Lib.hid (below_next hB.out hb); clear hb P')
            go_wp2
            go_ret
            exact ⟨by rw [show stOk ss n = false by unfold stOk; rw [alN_no (by rw [hone.out, t3]; simp) n hlt]; rfl]; rfl, hB.out⟩
        · have t1 : (sk.wide == s0.wide) = false := by simpa using h1
          have t2 : (sk.wide != s0.wide) = true := by simpa using h1
          clear h1
          go_wp2
          (refine region_at (by kernel_rfl) (by kernel_rfl) ?_; intro W hW; rw [hW] at hB P; clear hW; have P' := Go.Lib.hid (cls_row' P.out); (repeat (first | go_big_quiet_skip | (refine wpQuiet_load1 23 _ rfl (by first | exact want_n rfl | exact want_g _ _ _ rfl rfl rfl) D _ rfl (n * 266) (stF ss) _ rw_i8 P'.out (by omega) ?_; (first | rw [SubAt.p0 FK.out _ (by omega)] | rw [SubAt.p1 FK.out _ (by omega)] | rw [SubAt.p0 F0.out _ (by omega)] | rw [SubAt.p1 F0.out _ (by omega)]); simp only [Act.put, List.setIfInBounds_toArray, List.set_cons_succ, List.set_cons_zero]) | go_big_quiet_step ((go_at_call 39; exact cls_call _ (fun w hw => HO.out w (row_next hw P.out)))))); refine wpQuiet_nil ?_; intro Wn hb; replace P := Go.Lib.hid (row_next hb P.out); replace hB := Go.Lib.hid (below_next hB.out hb); clear hb P')
          go_wp2
          go_ret
          exact ⟨by rw [show stOk ss n = false by unfold stOk; rw [alN_no (by rw [hone.out, t1]; simp) n hlt]; rfl]; rfl, hB.out⟩
    · obtain rfl : k = n := by omega
      have hd : decide ((k : Int) < (k : Int)) = false := by simp
      have h6 : decide ((k : Int) ≤ 6) = decide (k ≤ 6) := by simp; omega
      go_wp2
      go_ret
      exact ⟨by unfold stOk; rw [HAL.out, ← h6]; rfl, hB.out⟩
end Go.Proofs.YtfhfiaphdgfmnaaDoor
namespace Go.Proofs.YtfhfiaphdgfmnaaDoor
open Go.RowKit
set_option maxRecDepth 100000
set_option linter.unusedVariables false
set_option linter.unusedSimpArgs false
/-- one of the first k has it -/
def anyN (pb : Nat → Bool) : Nat → Bool
  | 0 => false
  | k + 1 => anyN pb k || pb k
theorem anyN_some {pb : Nat → Bool} {i : Nat} (h : pb i = true) : ∀ k, i < k → anyN pb k = true
  | 0, h0 => by omega
  | k + 1, h0 => by
    show (anyN pb k || pb k) = true
    by_cases he : i = k
    · rw [← he, h]; simp
    · rw [anyN_some h k (by omega)]; rfl
theorem anyN_none {pb : Nat → Bool} : ∀ k, (∀ i, i < k → pb i = false) → anyN pb k = false
  | 0, _ => rfl
  | k + 1, h => by
    show (anyN pb k || pb k) = false
    rw [anyN_none k (fun i hi => h i (by omega)), h k (by omega)]; rfl
theorem anyN_ex {pb : Nat → Bool} : ∀ k, anyN pb k = true → ∃ i, i < k ∧ pb i = true
  | 0, h => by cases h
  | k + 1, h => by
    cases hk : anyN pb k
    · have h2 : (anyN pb k || pb k) = true := h
      rw [hk] at h2
      exact ⟨k, by omega, by simpa using h2⟩
    · obtain ⟨i, hi, hp⟩ := anyN_ex k hk
      exact ⟨i, by omega, hp⟩
set_option maxHeartbeats 4000000 in
theorem ixK_any (ss : Nat → Sh) (D n cp : Nat) (pb : Nat → Bool) (F : FuncId) (fs lb : Array Value) (w : World) (hn : n ≤ 1048576) (hr : w.heap[D]? = some (.cells (vrow (n * 266) (stF ss)) 39))
    (hF : ∀ (xs : Array Value) (w : World), (callFunc F xs).run Tryd.prog w = .ok (.enter F xs) w)
    (hC : ∀ i W, i < n → Below w.heap.size w W → Calls Tryd.prog F (fs.push (.agg (vrow 266 (ss i).at)) ++ lb) W fun e w' => e = .returned (.bool (pb i)) ∧ Below W.heap.size W w') :
    Calls Tryd.prog 123 #[.slice (some ⟨D, 0, none⟩) n cp, .func (.func F) fs lb] w fun e w' => (∃ r : Int, e = .returned (.int .i64 r) ∧ decide (0 ≤ r) = anyN pb n) ∧ Below w.heap.size w w' := by
  have HC := Go.Lib.hid hC
  have HF := Go.Lib.hid hF
  clear hC hF
  have hB := Go.Lib.hid (Below.refl w.heap.size w)
  go_enter Tryd.func123, Tryd.ntmps123
  go_wp2
  have B0 := hB.out
  clear hB
  go_loopw [8] (fun iv wr => ∃ k : Nat, k ≤ n ∧ iv = .int .i64 k ∧ (∀ i, i < k → pb i = false) ∧ Below w.heap.size w wr) (fun iv _ => n - (intOf iv).toNat)
  case atStart => exact ⟨0, by omega, rfl, fun i hi => by omega, B0⟩
  case round =>
    clear B0
    obtain ⟨k, hk, rfl, hno, hB⟩ := hrel
    by_cases hlt : k < n
    · have hkI : (k : Int) < (n : Int) := by omega
      have hk0 : (0 : Int) ≤ (k : Int) := by omega
      have hkd : decide ((k : Int) < (n : Int)) = true := by simpa using hkI
      have Gr : Hid (wr.heap[D]? = some (.cells (vrow (n * 266) (stF ss)) 39)) := Go.Lib.hid ((hB.block D (row_lt hr)).trans hr)
      have HR := Go.Lib.hid (stF_row ss k)
      have HCk := Go.Lib.hid fun W h => HC.out k W hlt h
      have hno2 := hno
      have HNO := Go.Lib.hid hno
      clear hno
      replace hB := Go.Lib.hid hB
      generalize hpk : pb k = bk at *
      generalize ss k = sk at HR HCk
      have HPK := Go.Lib.hid hpk
      clear hpk
      go_wp2_with (first
        | go_skip
        | ((with_reducible refine wlAt 15 rfl ?_); refine wpList_loadmid rfl 39 (.tmp 14) rfl D (k * 266) rfl (n * 266) 266 (stF ss) 39 _ Tryd.underlying39 rfl size_sheet Gr.out (by omega) ?_; rw [HR.out]))
      rw [HF.out]
      simp only [Oper.upon]
      refine (HCk.out _ hB.out).mono ?_
      rintro e w1 ⟨rfl, hb⟩
      replace hB := Go.Lib.hid (below_next hB.out hb)
      clear hb
      simp only [Act.put, List.setIfInBounds_toArray, List.set_cons_succ, List.set_cons_zero]
      cases bk
      · go_wp2
        go_roundw
        case rel => exact ⟨k + 1, by omega, by go_num, fun i hi9 => by
          by_cases he : i = k
          · rw [he]; exact HPK.out
          · exact HNO.out i (by omega), hB.out⟩
        case measure => simp [intOf]; omega
      · go_wp2
        go_ret
        exact ⟨⟨(k : Int), rfl, by rw [anyN_some HPK.out n hlt]; simp⟩, hB.out⟩
    · obtain rfl : k = n := by omega
      have hkd : decide ((k : Int) < (k : Int)) = false := by simp
      go_wp2
      go_ret
      exact ⟨⟨-1, rfl, by rw [anyN_none k hno]; rfl⟩, hB⟩
set_option maxHeartbeats 2000000 in
theorem coK_any (ss : Nat → Sh) (D n cp : Nat) (pb : Nat → Bool) (F : FuncId) (fs lb : Array Value) (w : World) (hn : n ≤ 1048576) (hr : w.heap[D]? = some (.cells (vrow (n * 266) (stF ss)) 39))
    (hF : ∀ (xs : Array Value) (w : World), (callFunc F xs).run Tryd.prog w = .ok (.enter F xs) w)
    (hC : ∀ i W, i < n → Below w.heap.size w W → Calls Tryd.prog F (fs.push (.agg (vrow 266 (ss i).at)) ++ lb) W fun e w' => e = .returned (.bool (pb i)) ∧ Below W.heap.size W w') :
    Calls Tryd.prog 119 #[.slice (some ⟨D, 0, none⟩) n cp, .func (.func F) fs lb] w fun e w' => e = .returned (.bool (anyN pb n)) ∧ Below w.heap.size w w' := by
  have HI := Go.Lib.hid (ixK_any ss D n cp pb F fs lb w hn hr hF hC)
  clear hC hr hF
  generalize anyN pb n = an at *
  go_enter Tryd.func119, Tryd.ntmps119
  go_wp2_with (first
    | go_skip
    | (go_at_call 123; (refine HI.out.mono ?_); rintro o w1 ⟨⟨r, rfl, hrr⟩, hb⟩))
  go_ret
  exact ⟨by rw [← hrr]; rfl, hb⟩
theorem few_any (a : Option Addr) (n cp : Nat) (w : World) : Calls Tryd.prog 114 #[.slice a n cp] w fun e w' => e = .returned (.bool (decide (n ≤ 6))) ∧ Below w.heap.size w w' := by
  have h6 : decide ((n : Int) ≤ 6) = decide (n ≤ 6) := by simp; omega
  go_enter Tryd.func114, Tryd.ntmps114
  go_wp2
  go_ret
  exact ⟨by rw [← h6]; rfl, Below.refl _ _⟩
theorem val1_any (s : Sh) (w : World) (hf : s.fit) : Calls Tryd.prog 120 #[.agg (vrow 266 s.at)] w fun e w' => e = .returned (.bool (!okI s)) ∧ Below w.heap.size w w' := by
  have HV := Go.Lib.hid fun w => implV_any s w (.inr hf)
  have P : Hid ((w.alloc (.cells (vrow 266 s.at) 39)).heap[w.heap.size]? = some (.cells (vrow 266 s.at) 39)) := heap_at _ _ _ (by simp)
  have hB : Hid (Below w.heap.size w (w.alloc (.cells (vrow 266 s.at) 39))) := Go.Lib.hid ((Below.refl w.heap.size w).alloc (by simp <;> omega) _)
  generalize okI s = b at *
  go_enter Tryd.func120, Tryd.ntmps120
  go_wp2_with (first
    | go_skip
    | ((with_reducible refine wlAt 3 rfl ?_); refine wpList_loadall rfl 39 (.tmp 1) rfl _ rfl 266 s.at 39 _ Tryd.underlying39 rfl size_sheet P.out ?_)
    | (go_at_call 81; (refine (HV.out _).mono ?_); rintro o w1 ⟨rfl, hb⟩; replace hB := Go.Lib.hid (below_next hB.out hb); clear hb))
  go_ret
  exact ⟨rfl, hB.out⟩
theorem allV_any (ss : Nat → Sh) (D n cp : Nat) (w : World) (hn : n ≤ 1048576) (hf : ∀ i, (ss i).fit) (h1 : w.heap[D]? = some (.cells (vrow (n * 266) (stF ss)) 39)) : Calls Tryd.prog 115 #[.slice (some ⟨D, 0, none⟩) n cp] w fun e w' => e = .returned (.bool (!anyN (fun k => !okI (ss k)) n)) ∧ Below w.heap.size w w' := by
  have HC := Go.Lib.hid (coK_any ss D n cp (fun k => !okI (ss k)) 120 #[] #[] w hn h1 (fun _ _ => by kernel_rfl) fun i W _ _ => val1_any (ss i) W (hf i))
  generalize anyN (fun k => !okI (ss k)) n = b at *
  go_enter Tryd.func115, Tryd.ntmps115
  go_wp2_with (first
    | go_skip
    | (go_at_call 119; (refine HC.out.mono ?_); rintro o w1 ⟨rfl, hb⟩; have hB := Go.Lib.hid hb; clear hb))
  go_ret
  exact ⟨rfl, hB.out⟩
theorem rw_stk : (Tryd.prog.underlying 35).map (·.isRow) = some false := by kernel_rfl
theorem size_stk : (Tryd.prog.info? 35).map (·.size) = some 1 := by kernel_rfl
set_option maxHeartbeats 2000000 in
theorem alk1_any (s : Sh) (ss : Nat → Sh) (D n cp B : Nat) (w : World) (h0 : 0 < n) (hn : n ≤ 1048576) (h1 : w.heap[D]? = some (.cells (vrow (n * 266) (stF ss)) 39)) (h2 : w.heap[B]? = some (.cells (vrow 1 fun _ => .slice (some ⟨D, 0, none⟩) n cp) 35)) : Calls Tryd.prog 121 #[.agg (vrow 266 s.at), .pointer (some ⟨B, 0, none⟩)] w fun e w' => e = .returned (.bool (!alikeB s (ss 0))) ∧ Below w.heap.size w w' := by
  have HS := Go.Lib.hid fun w => same_any s (ss 0) w
  have HR : Hid (vrow 266 (fun j => stF ss (0 + j)) = vrow 266 (ss 0).at) := Go.Lib.hid (by have h := stF_row ss 0; rwa [Nat.zero_mul] at h)
  generalize ss 0 = s0 at HS HR
  generalize alikeB s s0 = b at *
  have hnI : (0 : Int) < (n : Int) := by omega
  have P : Hid ((w.alloc (.cells (vrow 266 s.at) 39)).heap[w.heap.size]? = some (.cells (vrow 266 s.at) 39)) := heap_at _ _ _ (by simp)
  have R : Hid ((w.alloc (.cells (vrow 266 s.at) 39)).heap[D]? = some (.cells (vrow (n * 266) (stF ss)) 39)) := Go.Lib.hid (heap_past _ _ _ _ (row_lt h1) h1)
  have L : Hid ((w.alloc (.cells (vrow 266 s.at) 39)).heap[B]? = some (.cells (vrow 1 fun _ => .slice (some ⟨D, 0, none⟩) n cp) 35)) := Go.Lib.hid (heap_past _ _ _ _ (row_lt h2) h2)
  have hB : Hid (Below w.heap.size w (w.alloc (.cells (vrow 266 s.at) 39))) := Go.Lib.hid ((Below.refl w.heap.size w).alloc (by simp <;> omega) _)
  clear h1 h2
  go_enter Tryd.func121, Tryd.ntmps121
  go_wp2
  refine region_at (by kernel_rfl) (by kernel_rfl) ?_
  intro W hW
  rw [hW] at hB P R L
  clear hW
  have P' := Go.Lib.hid (cls_row' P.out); have R' := Go.Lib.hid (cls_row' R.out); have L' := Go.Lib.hid (cls_row' L.out)
  (repeat (first
    | go_big_quiet_skip
    | (refine wpQuiet_loadmid 39 (.tmp 2) rfl (by first | exact want_n rfl | exact want_g _ _ _ rfl rfl rfl) (w.heap.size) _ rfl 266 266 s.at _ rw_sheet size_sheet P'.out (by omega) ?_; rw [sh_row]; simp only [Act.put, List.setIfInBounds_toArray, List.set_cons_succ, List.set_cons_zero])
    | (refine wpQuiet_load1 35 (.tmp 1) rfl (by first | exact want_n rfl | exact want_g _ _ _ rfl rfl rfl) B _ rfl 1 _ _ rw_stk L'.out (by omega) ?_; simp only [Act.put, List.setIfInBounds_toArray, List.set_cons_succ, List.set_cons_zero])
    | (refine wpQuiet_loadmid 39 (.tmp 6) rfl (by first | exact want_n rfl | exact want_g _ _ _ rfl rfl rfl) D _ rfl (n * 266) 266 (stF ss) _ rw_sheet size_sheet R'.out (by omega) ?_; rw [HR.out]; simp only [Act.put, List.setIfInBounds_toArray, List.set_cons_succ, List.set_cons_zero])
    | go_big_quiet_step ((go_at_call 82; exact cls_call _ (fun w hw => HS.out w)))))
  refine wpQuiet_nil ?_
  intro Wn hb
  replace hB := Go.Lib.hid (below_next hB.out hb)
  clear hb
  go_wp2
  go_ret
  exact ⟨rfl, hB.out⟩
set_option maxHeartbeats 2000000 in
theorem allA_any (ss : Nat → Sh) (D n cp : Nat) (w : World) (hn : n ≤ 1048576) (h1 : w.heap[D]? = some (.cells (vrow (n * 266) (stF ss)) 39)) : Calls Tryd.prog 116 #[.slice (some ⟨D, 0, none⟩) n cp] w fun e w' => e = .returned (.bool (!anyN (fun k => !alikeB (ss k) (ss 0)) n)) ∧ Below w.heap.size w w' := by
  have P : Hid ((w.alloc (.cells (vrow 1 fun _ => .slice (some ⟨D, 0, none⟩) n cp) 35)).heap[w.heap.size]? = some (.cells (vrow 1 fun _ => .slice (some ⟨D, 0, none⟩) n cp) 35)) := heap_at _ _ _ (by simp)
  have R : Hid ((w.alloc (.cells (vrow 1 fun _ => .slice (some ⟨D, 0, none⟩) n cp) 35)).heap[D]? = some (.cells (vrow (n * 266) (stF ss)) 39)) := Go.Lib.hid (heap_past _ _ _ _ (row_lt h1) h1)
  have hB : Hid (Below w.heap.size w (w.alloc (.cells (vrow 1 fun _ => .slice (some ⟨D, 0, none⟩) n cp) 35))) := Go.Lib.hid ((Below.refl w.heap.size w).alloc (by simp <;> omega) _)
  have HC := Go.Lib.hid fun w' h1 h2 => coK_any ss D n cp (fun k => !alikeB (ss k) (ss 0)) 121 #[] #[.pointer (some ⟨w.heap.size, 0, none⟩)] w' hn h1 (fun _ _ => by kernel_rfl) fun i W hi hb => alk1_any (ss i) ss D n cp w.heap.size W (by omega) hn (row_next hb h1) (row_next hb h2)
  have hmf : ∀ (fn : Fn) (first cap : Array Value) (w : World), (Instr.makeFunc fn first cap).run Tryd.prog w = .ok (.func fn first cap) w := fun _ _ _ _ => rfl
  generalize anyN (fun k => !alikeB (ss k) (ss 0)) n = b at *
  clear h1
  go_enter Tryd.func116, Tryd.ntmps116
  go_wp2_with (first
    | go_skip
    | ((with_reducible refine wlAt 3 rfl ?_); refine wpList_load1 rfl 35 (.tmp 1) rfl _ 0 rfl 1 (fun _ => .slice (some ⟨D, 0, none⟩) n cp) 35 _ Tryd.underlying35 rfl P.out (by omega) ?_)
    | (go_at_call 119; (refine (HC.out _ R.out P.out).mono ?_); rintro o w1 ⟨rfl, hb⟩; replace hB := Go.Lib.hid (below_next hB.out hb); clear hb))
  go_ret
  exact ⟨rfl, hB.out⟩
end Go.Proofs.YtfhfiaphdgfmnaaDoor
namespace Go.Proofs.YtfhfiaphdgfmnaaDoor
open Go.RowKit
set_option maxRecDepth 100000
set_option linter.unusedVariables false
set_option linter.unusedSimpArgs false
def demId : Nat → FuncId
  | 0 => 114
  | 1 => 115
  | _ => 116
def demF (k : Nat) : Value := .func (.func (demId k)) #[] #[]
theorem size_f3 : (Tryd.prog.info? 139).map (·.size) = some 3 := by kernel_rfl
theorem zero_f3 : ∀ w, (zeroValue 139).run Tryd.prog w = .ok (.agg (vrow 3 fun _ => .nilFunc)) w := fun _ => by kernel_rfl
theorem dem_any (w : World) : Calls Tryd.prog 102 #[] w fun e w' => e = .returned (.agg (vrow 3 demF)) ∧ Below w.heap.size w w' := by
  have hB : Hid (Below w.heap.size w (w.alloc (.cells (vrow 3 fun _ => .nilFunc) 139))) := ((Below.refl w.heap.size w).alloc (by simp <;> omega) _)
  have Z : Hid ((w.alloc (.cells (vrow 3 fun _ => .nilFunc) 139)).heap[(w.heap.size)]? = some (.cells (vrow 3 fun _ => .nilFunc) 139)) := heap_at _ _ _ (by simp)
  have z4 := zero_f3
  go_enter Tryd.func102, Tryd.ntmps102
  go_wp2_with (first
    | (refine wpList_storeall rfl 139 (.tmp 0) (.tmp 1) rfl (w.heap.size) rfl 3 (fun _ => .nilFunc) demF rfl 139 size_f3 Z.out (fun i _ => rfl) ?_; replace Z := Go.Lib.hid (row_set Z.out (vrow 3 demF)); replace hB := Go.Lib.hid (Below_setRow hB.out (show w.heap.size ≤ w.heap.size by omega) (vrow 3 demF))))
  refine ret_row Tryd.results102 (w.heap.size) 3 demF 139 _ Tryd.underlying139 rfl size_f3 rfl rfl Z.out ?_
  exact ⟨rfl, hB.out⟩
theorem idx3 (k : Nat) (hk : k < 3) (w : World) : (Instr.index 139 (.agg (vrow 3 demF)) (.int .i64 k)).run Tryd.prog w = .ok (.func (.func (demId k)) #[] #[]) w := by
  have i0 : ∀ (a b c : Value) (w : World), (Instr.index 139 (.agg #[a, b, c]) (.int .i64 0)).run Tryd.prog w = .ok a w := fun _ _ _ _ => by kernel_rfl
  have i1 : ∀ (a b c : Value) (w : World), (Instr.index 139 (.agg #[a, b, c]) (.int .i64 1)).run Tryd.prog w = .ok b w := fun _ _ _ _ => by kernel_rfl
  have i2 : ∀ (a b c : Value) (w : World), (Instr.index 139 (.agg #[a, b, c]) (.int .i64 2)).run Tryd.prog w = .ok c w := fun _ _ _ _ => by kernel_rfl
  have : k = 0 ∨ k = 1 ∨ k = 2 := by omega
  rcases this with rfl | rfl | rfl
  · exact i0 _ _ _ w
  · exact i1 _ _ _ w
  · exact i2 _ _ _ w
theorem dem_in (k : Nat) (hk : k < 3) (a : Value) (w : World) : (callFunc (demId k) #[a]).run Tryd.prog w = .ok (.enter (demId k) #[a]) w := by
  have : k = 0 ∨ k = 1 ∨ k = 2 := by omega
  rcases this with rfl | rfl | rfl
  · exact (fun (a : Value) (w : World) => (by kernel_rfl : (callFunc 114 #[a]).run Tryd.prog w = .ok (.enter 114 #[a]) w)) a w
  · exact (fun (a : Value) (w : World) => (by kernel_rfl : (callFunc 115 #[a]).run Tryd.prog w = .ok (.enter 115 #[a]) w)) a w
  · exact (fun (a : Value) (w : World) => (by kernel_rfl : (callFunc 116 #[a]).run Tryd.prog w = .ok (.enter 116 #[a]) w)) a w
def demB (ss : Nat → Sh) (n : Nat) : Nat → Bool
  | 0 => decide (n ≤ 6)
  | 1 => !anyN (fun k => !okI (ss k)) n
  | _ => !anyN (fun k => !alikeB (ss k) (ss 0)) n
theorem demC_any (ss : Nat → Sh) (D n cp k : Nat) (w : World) (hn : n ≤ 1048576) (hf : ∀ i, (ss i).fit) (h1 : w.heap[D]? = some (.cells (vrow (n * 266) (stF ss)) 39)) : Calls Tryd.prog (demId k) #[.slice (some ⟨D, 0, none⟩) n cp] w fun e w' => e = .returned (.bool (demB ss n k)) ∧ Below w.heap.size w w' := by
  match k with
  | 0 => exact few_any _ n cp w
  | 1 => exact allV_any ss D n cp w hn hf h1
  | k + 2 => exact allA_any ss D n cp w hn h1
theorem alN_any (p q : Nat → Bool) : ∀ n, alN (fun k => p k && q k) n = (!anyN (fun k => !p k) n && !anyN (fun k => !q k) n)
  | 0 => rfl
  | n + 1 => by
    show (alN (fun k => p k && q k) n && (p n && q n)) = (!(anyN (fun k => !p k) n || !p n) && !(anyN (fun k => !q k) n || !q n))
    rw [alN_any p q n]
    cases anyN (fun k => !p k) n <;> cases anyN (fun k => !q k) n <;> cases p n <;> cases q n <;> rfl
theorem stOk_dem (ss : Nat → Sh) (n : Nat) (hf : ∀ i, (ss i).fit) : stOk ss n = (demB ss n 0 && (demB ss n 1 && demB ss n 2)) := by
  have e : stOne ss = fun k => okI (ss k) && alikeB (ss k) (ss 0) := funext fun k => by unfold stOne; rw [ok_eq (ss k) (hf k)]
  unfold stOk
  rw [e, alN_any]
  show ((!anyN _ n && !anyN _ n) && decide (n ≤ 6)) = (decide (n ≤ 6) && (!anyN _ n && !anyN _ n))
  rw [Bool.and_comm]
set_option maxHeartbeats 4000000 in
theorem ivk_any (ss : Nat → Sh) (D n cp : Nat) (w : World) (hn : n ≤ 1048576) (hf : ∀ i, (ss i).fit) (h1 : w.heap[D]? = some (.cells (vrow (n * 266) (stF ss)) 39)) : Calls Tryd.prog 80 #[.slice (some ⟨D, 0, none⟩) n cp] w fun e w' => e = .returned (.bool (stOk ss n)) ∧ Below w.heap.size w w' := by
  have HD := Go.Lib.hid fun k w h => demC_any ss D n cp k w hn hf h
  have hst := stOk_dem ss n hf
  have P := Go.Lib.hid h1
  have hB := Go.Lib.hid (Below.refl w.heap.size w)
  clear h1 hf
  generalize demB ss n = t at *
  have HST := Go.Lib.hid hst
  clear hst
  generalize stOk ss n = st at *
  go_enter Tryd.func80, Tryd.ntmps80
  go_wp2_with (first
    | go_skip
    | (go_at_call 102; (refine (dem_any _).mono ?_); rintro o w1 ⟨rfl, hb⟩; replace P := Go.Lib.hid (row_next hb P.out); replace hB := Go.Lib.hid (below_next hB.out hb); clear hb))
  have p1 := P.out; have b1 := hB.out
  clear P hB
  go_loopw [6] (fun iv wr => ∃ k : Nat, k ≤ 3 ∧ iv = .int .i64 k ∧ (∀ i, i < k → t i = true) ∧ wr.heap[D]? = some (.cells (vrow (n * 266) (stF ss)) 39) ∧ Below w.heap.size w wr) (fun iv _ => 3 - (intOf iv).toNat)
  case atStart => exact ⟨0, by omega, rfl, fun i hi => by omega, p1, b1⟩
  case round =>
    clear p1 b1
    obtain ⟨k, hk, rfl, hal, P, hB⟩ := hrel
    have HAL := Go.Lib.hid hal
    clear hal
    replace P := Go.Lib.hid P; replace hB := Go.Lib.hid hB
    by_cases hlt : k < 3
    · have hkI : (k : Int) < 3 := by omega
      have HK := Go.Lib.hid fun w h => HD.out k w h
      have hix := idx3 k hlt
      have hin := dem_in k hlt
      obtain ⟨b, hb0⟩ : ∃ b, t k = b := ⟨_, rfl⟩
      rw [hb0] at HK
      have HTK := Go.Lib.hid hb0
      clear hb0
      generalize demId k = F at *
      go_wp2
      refine (HK.out _ P.out).mono ?_
      rintro e w1 ⟨rfl, hb⟩
      replace P := Go.Lib.hid (row_next hb P.out); replace hB := Go.Lib.hid (below_next hB.out hb)
      clear hb
      (try simp only [Act.put, List.setIfInBounds_toArray, List.set_cons_succ, List.set_cons_zero])
      cases b
      · go_wp2
        go_ret
        refine ⟨?_, hB.out⟩
        have h3 : st = false := by
          rw [HST.out]
          have : k = 0 ∨ k = 1 ∨ k = 2 := by omega
          rcases this with rfl | rfl | rfl <;> rw [HTK.out] <;> simp
        rw [h3]
        rfl
      · go_wp2
        go_roundw
        case rel => exact ⟨k + 1, by omega, by go_num, fun i hi => by
          by_cases he : i = k
          · rw [he]; exact HTK.out
          · exact HAL.out i (by omega), P.out, hB.out⟩
        case measure => simp [intOf]; omega
    · obtain rfl : k = 3 := by omega
      have h3 : st = true := by rw [HST.out, HAL.out 0 (by omega), HAL.out 1 (by omega), HAL.out 2 (by omega)]; rfl
      subst h3
      go_wp2
      go_ret
      exact ⟨rfl, hB.out⟩
end Go.Proofs.YtfhfiaphdgfmnaaDoor
