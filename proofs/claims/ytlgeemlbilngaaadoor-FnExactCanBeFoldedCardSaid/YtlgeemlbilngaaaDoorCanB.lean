import Derived.Test.YtlgeemlbilngaaaDoorIOff
namespace Go.Proofs.YtlgeemlbilngaaaDoor
open Go.RowKit
set_option maxRecDepth 100000
set_option linter.unusedVariables false
set_option linter.unusedSimpArgs false
/-- the greatest of the first k -/
def mxk (g : Nat → Int) : Nat → Int
  | 0 => g 0
  | k + 1 => if k = 0 then g 0 else max (mxk g k) (g k)
/-- no number is more than 1 -/
def canG (G : Nat → Nat → Int) : Nat → Bool
  | 0 => true
  | k + 1 => canG G k && !decide (1 < mxk (G k) 3)
theorem mxk_3 (g : Nat → Int) : mxk g 3 = max (max (g 0) (g 1)) (g 2) := by simp [mxk]
theorem canG_eq (G : Nat → Nat → Int) : ∀ k, canG G k = decide (oM G k ≤ 1)
  | 0 => by simp [canG, oM]
  | k + 1 => by
    have h := canG_eq G k
    have e : oM G (k + 1) = max (max (max (oM G k) (G k 0)) (G k 1)) (G k 2) := rfl
    rw [show canG G (k + 1) = (canG G k && !decide (1 < mxk (G k) 3)) from rfl, h, mxk_3, e, Bool.eq_iff_iff]
    simp only [Bool.and_eq_true, Bool.not_eq_true', decide_eq_true_eq, decide_eq_false_iff_not]
    omega
theorem canG_no {G : Nat → Nat → Int} {k n : Nat} (h : k < n) (hq : decide (1 < mxk (G k) 3) = true) : canG G n = false := by
  induction n with
  | zero => omega
  | succ n ih =>
    by_cases e : k = n
    · subst e; simp [canG, hq]
    · rw [canG, ih (by omega)]; rfl
theorem mxk_bd {g : Nat → Int} (h : ∀ m, m < 3 → 0 ≤ g m ∧ g m ≤ 1000) : ∀ k, k ≤ 3 → 0 ≤ mxk g k ∧ mxk g k ≤ 1000
  | 0, _ => h 0 (by omega)
  | k + 1, hk => by
    have h1 := mxk_bd h k (by omega)
    have h2 := h k (by omega)
    have h0 := h 0 (by omega)
    unfold mxk
    split <;> omega
theorem d3f_atM (g : Nat → Int) (i : Nat) : d3f g i = .int .i16 (g i) := rfl
set_option maxHeartbeats 4000000 in
theorem max3_any (g : Nat → Int) (D : Nat) (w : World) (hg : ∀ m, m < 3 → 0 ≤ g m ∧ g m ≤ 1000) (hd : w.heap[D]? = some (.cells (vrow 3 (d3f g)) 26)) : Calls Tryd.prog 52 #[.slice (some ⟨D, 0, none⟩) 3 3] w fun e w' => e = .returned (.int .i16 (mxk g 3)) ∧ Below w.heap.size w w' := by
  have R := Go.Lib.hid hd; have hB := Go.Lib.hid (Below.refl w.heap.size w)
  clear hd
  have F0 := Go.Lib.hid (d3f_atM g 0)
  go_enter Tryd.func52, Tryd.ntmps52
  go_wp2_with (first
    | go_skip
    | ((with_reducible refine wlAt 11 rfl ?_); refine wpList_ld1 23 _ rfl (by first | exact want_n rfl | exact want_g _ _ _ rfl rfl rfl) D _ rfl 3 (d3f g) _ rw_i16 R.out (by omega) ?_; rw [d3f_atM]))
  have R0 := R.out; have B0 := hB.out
  clear R hB
  go_loopw [3, 4] (fun mv iv wr => ∃ k : Nat, 1 ≤ k ∧ k ≤ 3 ∧ iv = .int .i64 k ∧ mv = .int .i16 (mxk g k) ∧ wr.heap[D]? = some (.cells (vrow 3 (d3f g)) 26) ∧ Below w.heap.size w wr) (fun _ iv _ => 3 - (intOf iv).toNat)
  case atStart => exact ⟨1, by omega, by omega, rfl, by simp [mxk], R0, B0⟩
  case round =>
    clear R0 B0
    obtain ⟨k, hk1, hk, rfl, rfl, R, hB⟩ := hrel
    replace R := Go.Lib.hid R; replace hB := Go.Lib.hid hB
    by_cases hlt : k < 3
    · have hkI : (k : Int) < 3 := by omega
      have hk0 : (0 : Int) ≤ (k : Int) := by omega
      have hkd : decide ((k : Int) < 3) = true := by simpa using hkI
      have hst := Go.Lib.hid (show mxk g (k + 1) = max (mxk g k) (g k) by rw [mxk, if_neg (by omega)])
      have hb1 := mxk_bd hg k hk
      have hb2 := hg k hlt
      have FK := Go.Lib.hid (d3f_atM g k)
      generalize mxk g k = mv at *
      generalize g k = gk at *
      go_wp2_with (first
        | go_skip
        | ((with_reducible refine wlAt 22 rfl ?_); refine wpList_ld1 23 _ rfl (by first | exact want_n rfl | exact want_g _ _ _ rfl rfl rfl) D _ rfl 3 (d3f g) _ rw_i16 R.out (by omega) ?_; simp only [Nat.zero_add, Nat.mul_one]; rw [FK.out]))
      go_roundw
      case rel => exact ⟨k + 1, by omega, by omega, by go_num, by rw [hst.out]; congr 1; split <;> omega, R.out, hB.out⟩
      case measure => simp [intOf]; omega
    · obtain rfl : k = 3 := by omega
      have hkd : decide (((3 : Nat) : Int) < 3) = false := by simp
      go_wp2
      go_ret
      exact ⟨rfl, hB.out⟩
set_option maxHeartbeats 4000000 in
theorem cb1_any (s : Sh) (b i j i2 j2 : Nat) (w : World) (hs : w.heap[b]? = some (.cells (vrow 266 s.at) 36)) (hv : okI s = true) (hi8 : i < 8) (hj8 : j < 8) (hi2 : i2 < 8) (hj2 : j2 < 8) : Calls Tryd.prog 51 #[.agg (vrow 4 (p4 i j i2 j2)), .pointer (some ⟨b, 0, none⟩)] w fun e w' => e = .returned (.bool (decide (1 < mxk (gp (dyA s i j) (dyA s i2 j2)) 3))) ∧ Below w.heap.size w w' := by
  have HG := Go.Lib.hid fun w => gapsOf_any s i j i2 j2 w hv hi8 hj8 hi2 hj2
  have hgb := fun m (hm : m < 3) => gp_bd (dyA_bd hv hi8 hj8 m hm) (dyA_bd hv hi2 hj2 m hm)
  have zz := zero_d3
  generalize gp (dyA s i j) (dyA s i2 j2) = G at *
  have HM := Go.Lib.hid fun D w h => max3_any G D w hgb h
  generalize mxk G 3 = mx at *
  have P : Hid ((w.alloc (.cells (vrow 4 (p4 i j i2 j2)) 63)).heap[b]? = some (.cells (vrow 266 s.at) 36)) := heap_past _ _ _ _ (row_lt hs) hs
  have R : Hid ((w.alloc (.cells (vrow 4 (p4 i j i2 j2)) 63)).heap[w.heap.size]? = some (.cells (vrow 4 (p4 i j i2 j2)) 63)) := (heap_at _ _ _ (by simp))
  have hB : Hid (Below w.heap.size w (w.alloc (.cells (vrow 4 (p4 i j i2 j2)) 63))) := Go.Lib.hid ((Below.refl w.heap.size w).alloc (by simp <;> omega) _)
  clear hs
  go_enter Tryd.func51, Tryd.ntmps51
  go_wp2_with (first
    | go_skip
    | ((with_reducible refine wlAt 5 rfl ?_); refine wpList_ldm 36 (.tmp 1) rfl (by first | exact want_n rfl | exact want_g _ _ _ rfl rfl rfl) (b) _ rfl 266 266 s.at _ rw_sheet size_sheet P.out (by omega) ?_; rw [sh_row])
    | ((with_reducible refine wlAt 6 rfl ?_); refine wpList_loadall rfl 63 (.tmp 2) rfl w.heap.size rfl 4 (p4 i j i2 j2) 63 _ Tryd.underlying63 rfl size_prtP R.out ?_)
    | (go_at_call 44; (refine (HG.out _).mono ?_); rintro o w1 ⟨rfl, hb⟩; replace P := Go.Lib.hid (row_next hb P.out); replace hB := Go.Lib.hid (below_next hB.out hb); clear hb R)
    | ((with_reducible refine wlOp (.store 26 (.tmp 4) (.tmp 7)) rfl ?_); refine wpList_storeall rfl 26 (.tmp 4) (.tmp 7) rfl _ rfl 3 (fun _ => .int .i16 0) (d3f G) rfl 26 size_d3g (heap_at _ _ _ rfl) (fun _ _ => rfl) ?_; rw [setRow_at _ _ _ _ _ rfl]; have X := Go.Lib.hid (heap_at w1 (.cells (vrow 3 (d3f G)) 26) _ rfl); replace hB := Go.Lib.hid (hB.out.alloc hB.out.size (.cells (vrow 3 (d3f G)) 26)); clear P)
    | (go_at_call 52; (refine (HM.out _ _ X.out).mono ?_); rintro o w2 ⟨rfl, hb⟩; replace hB := Go.Lib.hid (below_next hB.out hb); clear hb X))
  go_ret
  exact ⟨rfl, hB.out⟩
set_option maxRecDepth 100000 in
set_option maxHeartbeats 4000000 in
theorem idxP_any (s : Sh) (b : Nat) (ax : Int) (d : Bool) (L : List Sp8) (v : Value) (B : Nat) (w : World) (hs : w.heap[b]? = some (.cells (vrow 266 s.at) 36)) (hv : okI s = true) (hin : inP ax d L) (hlen : L.length ≤ 64) (hO : PRO w v ax d L B) : Calls Tryd.prog 73 #[v, .func (.func 51) #[] #[.pointer (some ⟨b, 0, none⟩)]] w fun e w' => (∃ r : Int, e = .returned (.int .i64 r) ∧ decide (0 ≤ r) = !canG (gq s ax d L) L.length) ∧ Below w.heap.size w w' := by
  obtain ⟨ao, cc, rfl, hr⟩ := hO
  have hgq : ∀ k (h : k < L.length), gq s ax d L k = gapP s ax d (L[k]'h) := fun k h => by unfold gq; rw [dif_pos h]
  generalize gq s ax d L = G at *
  have B0 := Below.refl w.heap.size w
  go_enter Tryd.func73, Tryd.ntmps73
  go_wp2
  go_loopw [8] (fun iv wr => ∃ k : Nat, k ≤ L.length ∧ iv = .int .i64 k ∧ canG G k = true ∧ wr.heap[b]? = some (.cells (vrow 266 s.at) 36) ∧ (∀ (g : Nat) X, w.heap[g]? = some X → wr.heap[g]? = some X) ∧ Below w.heap.size w wr) (fun iv _ => L.length - (intOf iv).toNat)
  case atStart => exact ⟨0, by omega, rfl, rfl, hs, fun _ _ h => h, B0⟩
  case round =>
    clear B0 hs
    obtain ⟨k, hk, rfl, hcA, P, hKp, hB⟩ := hrel
    by_cases hlt : k < L.length
    · rcases hr with h0 | ⟨g, N, f, rfl, hg, hN, hrow, hf4⟩
      · omega
      have Gr := Go.Lib.hid (hKp g _ hrow)
      obtain ⟨⟨⟨i, j⟩, hi8, hj8⟩, hp⟩ : ∃ p, L[k]'hlt = p := ⟨_, rfl⟩
      have h4 := hf4 k hlt
      have hgk := hgq k hlt
      have hin1 := hin _ (List.getElem_mem hlt)
      rw [hp] at h4 hgk hin1
      obtain ⟨⟨⟨i2, j2⟩, hi2, hj2⟩, hsg⟩ : ∃ p, sgP ax d ⟨(i, j), hi8, hj8⟩ = p := ⟨_, rfl⟩
      rw [hsg] at hin1
      simp only at hin1 h4
      rw [← hin1.1, ← hin1.2] at h4
      have hga : G k = gp (dyA s i j) (dyA s i2 j2) := by rw [hgk]; unfold gapP; rw [hsg]
      replace hi8 : i < 8 := hi8
      replace hj8 : j < 8 := hj8
      replace hi2 : i2 < 8 := hi2
      replace hj2 : j2 < 8 := hj2
      have H4 := Go.Lib.hid h4
      have HC := Go.Lib.hid fun w h => cb1_any s b i j i2 j2 w h hv hi8 hj8 hi2 hj2
      rw [← hga] at HC
      have hst : canG G (k + 1) = (canG G k && !decide (1 < mxk (G k) 3)) := rfl
      have hnn := fun h => canG_no (G := G) hlt h
      clear h4 hgk hin1 hsg hp hf4 hrow hga
      replace P := Go.Lib.hid P; replace hKp := Go.Lib.hid hKp; replace hB := Go.Lib.hid hB
      have hkI : (k : Int) < (L.length : Int) := by omega
      have hk0 : (0 : Int) ≤ (k : Int) := by omega
      have hkd : decide ((k : Int) < (L.length : Int)) = true := by simpa using hkI
      cases hq : decide (1 < mxk (G k) 3)
      · rw [hq] at HC hst
        have hyes := Go.Lib.hid (show canG G (k + 1) = true by rw [hst, hcA]; rfl)
        clear hq hst hnn
        go_wp2_with (first
          | go_skip
          | ((with_reducible refine wlAt 15 rfl ?_); refine wpList_loadmid rfl 63 (.tmp 14) rfl g (k * 4) rfl N 4 f 63 _ Tryd.underlying63 rfl size_prtP Gr.out (by omega) ?_; rw [H4.out])
          | (go_at_call 51; (refine (HC.out _ P.out).mono ?_); rintro o w1 ⟨rfl, hb⟩; clear Gr; replace P := Go.Lib.hid (row_next hb P.out); replace hKp := Go.Lib.hid (fun (g : Nat) X (h : w.heap[g]? = some X) => row_next hb (hKp.out g X h)); replace hB := Go.Lib.hid (below_next hB.out hb); clear hb))
        go_roundw
        case rel => exact ⟨k + 1, by omega, by go_num, hyes.out, P.out, hKp.out, hB.out⟩
        case measure => simp [intOf]; omega
      · rw [hq] at HC
        have hno := Go.Lib.hid (hnn hq)
        clear hq hst hnn
        go_wp2_with (first
          | go_skip
          | ((with_reducible refine wlAt 15 rfl ?_); refine wpList_loadmid rfl 63 (.tmp 14) rfl g (k * 4) rfl N 4 f 63 _ Tryd.underlying63 rfl size_prtP Gr.out (by omega) ?_; rw [H4.out])
          | (go_at_call 51; (refine (HC.out _ P.out).mono ?_); rintro o w1 ⟨rfl, hb⟩; clear Gr; replace P := Go.Lib.hid (row_next hb P.out); replace hKp := Go.Lib.hid (fun (g : Nat) X (h : w.heap[g]? = some X) => row_next hb (hKp.out g X h)); replace hB := Go.Lib.hid (below_next hB.out hb); clear hb))
        go_ret
        exact ⟨⟨_, rfl, by rw [hno.out]; simp⟩, hB.out⟩
    · obtain rfl : k = L.length := by omega
      have hkd : decide ((L.length : Int) < (L.length : Int)) = false := by simp
      replace hcA := Go.Lib.hid hcA; replace hB := Go.Lib.hid hB
      go_wp2
      go_ret
      exact ⟨⟨_, rfl, by rw [hcA.out]; simp⟩, hB.out⟩
set_option maxHeartbeats 1000000 in
theorem conP_any (s : Sh) (b : Nat) (ax : Int) (d : Bool) (L : List Sp8) (v : Value) (B : Nat) (w : World) (hs : w.heap[b]? = some (.cells (vrow 266 s.at) 36)) (hv : okI s = true) (hin : inP ax d L) (hlen : L.length ≤ 64) (hO : PRO w v ax d L B) : Calls Tryd.prog 50 #[v, .func (.func 51) #[] #[.pointer (some ⟨b, 0, none⟩)]] w fun e w' => e = .returned (.bool (!canG (gq s ax d L) L.length)) ∧ Below w.heap.size w w' := by
  have HI := Go.Lib.hid (idxP_any s b ax d L v B w hs hv hin hlen hO)
  have hB := Go.Lib.hid (Below.refl w.heap.size w)
  clear hs hO
  generalize canG (gq s ax d L) L.length = cv at *
  go_enter Tryd.func50, Tryd.ntmps50
  go_wp2_with (first
    | go_skip
    | (go_at_call 73; (refine HI.out.mono ?_); rintro o w1 ⟨⟨r, rfl, hr⟩, hb⟩; replace hB := Go.Lib.hid (below_next hB.out hb); clear hb))
  go_ret
  exact ⟨rfl, hB.out⟩
set_option maxHeartbeats 1000000 in
theorem canB_any (s : Sh) (ax : Int) (d : Bool) (L : List Sp8) (v : Value) (B : Nat) (w : World) (hv : okI s = true) (hin : inP ax d L) (hlen : L.length ≤ 64) (hO : PRO w v ax d L B) : Calls Tryd.prog 26 #[.agg s.row, v] w fun e w' => e = .returned (.bool (canG (gq s ax d L) L.length)) ∧ Below w.heap.size w w' := by
  have hmf : ∀ (fn : Fn) (first cap : Array Value) (w : World), (Instr.makeFunc fn first cap).run Tryd.prog w = .ok (.func fn first cap) w := fun _ _ _ _ => rfl
  have hO1 : PRO (w.alloc (.cells (vrow 266 s.at) 36)) v ax d L B := by
    obtain ⟨ao, cc, e, h⟩ := hO
    refine ⟨ao, cc, e, h.imp id ?_⟩
    rintro ⟨g, N, f, h1, h2, h3, h4, h5⟩
    exact ⟨g, N, f, h1, h2, h3, heap_past _ _ _ _ (row_lt h4) h4, h5⟩
  have HI := Go.Lib.hid fun h => conP_any s w.heap.size ax d L v B (w.alloc (.cells (vrow 266 s.at) 36)) h hv hin hlen hO1
  clear hO hO1
  generalize canG (gq s ax d L) L.length = cv at *
  have P : Hid ((w.alloc (.cells (vrow 266 s.at) 36)).heap[w.heap.size]? = some (.cells (vrow 266 s.at) 36)) := (heap_at _ _ _ (by simp))
  have hB : Hid (Below w.heap.size w (w.alloc (.cells (vrow 266 s.at) 36))) := Go.Lib.hid ((Below.refl w.heap.size w).alloc (by simp <;> omega) _)
  go_enter Tryd.func26, Tryd.ntmps26
  go_wp2_with (first
    | go_skip
    | (go_at_call 50; (refine (HI.out P.out).mono ?_); rintro o w1 ⟨rfl, hb⟩; replace hB := Go.Lib.hid (below_next hB.out hb); clear hb))
  go_ret
  exact ⟨by simp, hB.out⟩
end Go.Proofs.YtlgeemlbilngaaaDoor
