import Derived.Test.YtdagbddmgeoanaaDoorMxB
import Derived.Test.YtdagbddmgeoanaaDoorG1
namespace Go.Proofs.YtdagbddmgeoanaaDoor
open Go.RowKit
set_option maxRecDepth 100000
set_option linter.unusedVariables false
set_option linter.unusedSimpArgs false
theorem drwT {w : World} {b : Nat} {x : Obj} (h : w.heap[b]? = some x) : w.drew.heap[b]? = some x := h
def tri (x y z : Int) : Nat → Int := fun i => if i = 0 then x else if i = 1 then y else z
def mxM (P : Int) (q : Nat × Nat) : Nat → Int := tri q.1 q.2 (P - q.1 - q.2)
theorem built_tri (x y z : Int) : Tryd.prog.built 22 [(0, .int .i64 x), (1, .int .i64 y), (2, .int .i64 z)] = some (vrow 3 (i3 (tri x y z))) := by kernel_rfl
theorem mx00 (P : Int) : tri 0 0 P = mxM P (0, 0) := by
  unfold mxM; rw [show P - ((0, 0) : Nat × Nat).1 - ((0, 0) : Nat × Nat).2 = P by simp]; rfl
def oM3 (v : Nat → Int) (P : Int) (q : Nat × Nat) : Int := offK v P (mxM P q) 3
def kpM (v : Nat → Int) (P : Int) (s q : Nat × Nat) : Nat × Nat := if oM3 v P q < oM3 v P s then q else s
def innM (v : Nat → Int) (P : Int) (a : Nat) : Nat → Nat × Nat → Nat × Nat
  | 0, s => s
  | b + 1, s => kpM v P (innM v P a b s) (a, b)
def outM (v : Nat → Int) (P : Int) (n : Nat) : Nat → Nat × Nat
  | 0 => (0, 0)
  | a + 1 => innM v P a (n - a + 1) (outM v P n a)
theorem kpM_bd {v : Nat → Int} {P : Int} {n : Nat} {s q : Nat × Nat} (h1 : s.1 + s.2 ≤ n) (h2 : q.1 + q.2 ≤ n) : (kpM v P s q).1 + (kpM v P s q).2 ≤ n := by
  unfold kpM; split <;> assumption
theorem innM_bd {v : Nat → Int} {P : Int} {n a : Nat} (ha : a ≤ n) : ∀ b s, s.1 + s.2 ≤ n → b ≤ n - a + 1 → (innM v P a b s).1 + (innM v P a b s).2 ≤ n
  | 0, s, h, _ => h
  | b + 1, s, h, hb => kpM_bd (innM_bd ha b s h (by omega)) (by show a + b ≤ n; omega)
theorem outM_bd {v : Nat → Int} {P : Int} {n : Nat} : ∀ a, a ≤ n + 1 → (outM v P n a).1 + (outM v P n a).2 ≤ n
  | 0, _ => by simp [outM]
  | a + 1, h => innM_bd (by omega) _ _ (outM_bd a (by omega)) (Nat.le_refl _)
theorem mx_in {P : Int} {n : Nat} {q : Nat × Nat} (hP : P = n) (hn : n ≤ 30) (h : q.1 + q.2 ≤ n) : in3 (mxM P q) 30 := by
  intro i hi
  unfold mxM tri
  have : i = 0 ∨ i = 1 ∨ i = 2 := by omega
  rcases this with rfl | rfl | rfl <;> simp <;> omega
set_option maxHeartbeats 16000000 in
theorem near_any (v : Nat → Int) (P : Int) (n : Nat) (w : World) (hv : in3 v 1000) (hPn : P = n) (hn : 1 ≤ n ∧ n ≤ 30) : Calls Tryd.prog 12 #[.agg (vrow 3 (i3 v)), .int .i64 P] w fun e w' => e = .returned (.tuple #[.agg (vrow 3 (i3 (mxM P (outM v P n (n + 1))))), .int .i64 (oM3 v P (outM v P n (n + 1)))]) ∧ Below w.heap.size w w' := by
  have zz := zero_i3
  have z6 : ∀ w, (zeroValue 2).run Tryd.prog w = .ok (.int .i64 0) w := fun _ => by kernel_rfl
  have hmf : ∀ (fn : Fn) (first cap : Array Value) (w : World), (Instr.makeFunc fn first cap).run Tryd.prog w = .ok (.func fn first cap) w := fun _ _ _ _ => rfl
  have hPa : P ≤ n := by omega
  have hPb : (n : Int) ≤ P := by omega
  clear hPn
  have hP : 1 ≤ P ∧ P ≤ 30 := by omega
  have HF := Go.Lib.hid fun w => offFrom_any (mxM P (0, 0)) v P w (mx_in (show P = n by omega) hn.2 (by simp)) hv hP
  have e0 : offK v P (mxM P (0, 0)) 3 = oM3 v P (0, 0) := rfl
  rw [e0] at HF
  clear e0
  have hp1 : IntKind.i64.wrap (P + 1) = P + 1 := IntWalk.i64_in _ (by omega)
  have HM0 := Go.Lib.hid (mx00 P)
  have Wn : Hid ((((w.alloc (.cells (vrow 3 (i3 v)) 22)).alloc (.cells #[.int .i64 P] 2)).alloc (.cells (vrow 3 fun _ => .int .i64 0) 22)).heap[w.heap.size]? = some (.cells (vrow 3 (i3 v)) 22)) := (heap_past _ _ _ _ (by simp <;> omega) (heap_past _ _ _ _ (by simp <;> omega) (heap_at _ _ _ (by simp))))
  have Pt : Hid ((((w.alloc (.cells (vrow 3 (i3 v)) 22)).alloc (.cells #[.int .i64 P] 2)).alloc (.cells (vrow 3 fun _ => .int .i64 0) 22)).heap[w.heap.size + 1]? = some (.cells #[.int .i64 P] 2)) := (heap_past _ _ _ _ (by simp <;> omega) (heap_at _ _ _ (by simp)))
  have Zr : Hid ((((w.alloc (.cells (vrow 3 (i3 v)) 22)).alloc (.cells #[.int .i64 P] 2)).alloc (.cells (vrow 3 fun _ => .int .i64 0) 22)).heap[w.heap.size + 2]? = some (.cells (vrow 3 fun _ => .int .i64 0) 22)) := (heap_at _ _ _ (by simp))
  have hB : Hid (Below w.heap.size w (((w.alloc (.cells (vrow 3 (i3 v)) 22)).alloc (.cells #[.int .i64 P] 2)).alloc (.cells (vrow 3 fun _ => .int .i64 0) 22))) := Go.Lib.hid ((((Below.refl w.heap.size w).alloc (by simp <;> omega) _).alloc (by simp <;> omega) _).alloc (by simp <;> omega) _)
  replace Pt : Hid ((((w.alloc (.cells (vrow 3 (i3 v)) 22)).alloc (.cells #[.int .i64 P] 2)).alloc (.cells (vrow 3 fun _ => .int .i64 0) 22)).heap[w.heap.size + 1]? = some (.cells (vrow 1 fun _ => .int .i64 P) 2)) := Pt
  go_enter Tryd.func12, Tryd.ntmps12
  go_wp2_with (first
    | go_skip
    | ((with_reducible refine wlAt 11 rfl ?_); refine wpList_load1 rfl 2 (.tmp 3) rfl (w.heap.size + 1) 0 rfl 1 (fun _ => .int .i64 P) _ _ Tryd.underlying2 rfl Pt.out (by omega) ?_)
    | ((with_reducible refine wlAt 12 rfl ?_); refine wpList_built rfl 22 [(0, .const (.int .i64 0)), (1, .const (.int .i64 0)), (2, .tmp 11)] rfl [(0, .int .i64 0), (1, .int .i64 0), (2, .int .i64 P)] (by rfl) _ (built_tri 0 0 P) ?_; rw [HM0.out])
    | ((with_reducible refine wlOp (.store 22 (.tmp 6) (.tmp 12)) rfl ?_); refine wpList_storeall rfl 22 (.tmp 6) (.tmp 12) rfl (w.heap.size + 3) rfl 3 (fun _ => .int .i64 0) (i3 (mxM P (0, 0))) rfl 22 size_i3 (heap_at _ _ _ (by simp)) (fun i _ => i3_one _ i) ?_; rw [setRow_at _ _ _ _ _ (by simp)]; have Bs := Go.Lib.hid (heap_at (((w.alloc (.cells (vrow 3 (i3 v)) 22)).alloc (.cells #[.int .i64 P] 2)).alloc (.cells (vrow 3 fun _ => .int .i64 0) 22)) (.cells (vrow 3 (i3 (mxM P (0, 0)))) 22) (w.heap.size + 3) (by simp)); replace Wn := Go.Lib.hid (heap_past (((w.alloc (.cells (vrow 3 (i3 v)) 22)).alloc (.cells #[.int .i64 P] 2)).alloc (.cells (vrow 3 fun _ => .int .i64 0) 22)) (.cells (vrow 3 (i3 (mxM P (0, 0)))) 22) _ _ (row_lt Wn.out) Wn.out); replace Pt := Go.Lib.hid (heap_past (((w.alloc (.cells (vrow 3 (i3 v)) 22)).alloc (.cells #[.int .i64 P] 2)).alloc (.cells (vrow 3 fun _ => .int .i64 0) 22)) (.cells (vrow 3 (i3 (mxM P (0, 0)))) 22) _ _ (row_lt Pt.out) Pt.out); replace Zr := Go.Lib.hid (heap_past (((w.alloc (.cells (vrow 3 (i3 v)) 22)).alloc (.cells #[.int .i64 P] 2)).alloc (.cells (vrow 3 fun _ => .int .i64 0) 22)) (.cells (vrow 3 (i3 (mxM P (0, 0)))) 22) _ _ (row_lt Zr.out) Zr.out); replace hB := Go.Lib.hid (hB.out.alloc hB.out.size (.cells (vrow 3 (i3 (mxM P (0, 0)))) 22)); have hs4 : (World.alloc (((w.alloc (.cells (vrow 3 (i3 v)) 22)).alloc (.cells #[.int .i64 P] 2)).alloc (.cells (vrow 3 fun _ => .int .i64 0) 22)) (.cells (vrow 3 (i3 (mxM P (0, 0)))) 22)).heap.size = w.heap.size + 4 := (by simp); generalize World.alloc (((w.alloc (.cells (vrow 3 (i3 v)) 22)).alloc (.cells #[.int .i64 P] 2)).alloc (.cells (vrow 3 fun _ => .int .i64 0) 22)) (.cells (vrow 3 (i3 (mxM P (0, 0)))) 22) = W4 at Wn Pt Zr Bs hB hs4 ⊢)
    | ((with_reducible refine wlAt 13 rfl ?_); refine wpList_loadall rfl 22 (.tmp 6) rfl (w.heap.size + 3) rfl 3 (i3 (mxM P (0, 0))) 22 _ Tryd.underlying22 rfl size_i3 Bs.out ?_)
    | ((with_reducible refine wlAt 14 rfl ?_); refine wpList_loadall rfl 22 (.tmp 2) rfl w.heap.size rfl 3 (i3 v) 22 _ Tryd.underlying22 rfl size_i3 Wn.out ?_)
    | ((with_reducible refine wlAt 15 rfl ?_); refine wpList_load1 rfl 2 (.tmp 3) rfl (w.heap.size + 1) 0 rfl 1 (fun _ => .int .i64 P) _ _ Tryd.underlying2 rfl Pt.out (by omega) ?_)
    | (go_at_call 17; (refine (HF.out _).mono ?_); rintro o w5 ⟨rfl, hb⟩; have hs5 := hb.size; replace Wn := Go.Lib.hid (row_next hb Wn.out); replace Pt := Go.Lib.hid (row_next hb Pt.out); replace Zr := Go.Lib.hid (row_next hb Zr.out); replace Bs := Go.Lib.hid (row_next hb Bs.out); replace hB := Go.Lib.hid (below_next hB.out hb); clear hb)
    | ((with_reducible refine wlOp (.store 2 (.tmp 7) (.tmp 16)) rfl ?_); refine wpList_store1 rfl 2 (.tmp 7) (.tmp 16) rfl w5.heap.size 0 rfl 1 (fun _ => .int .i64 0) (.int .i64 (oM3 v P (0, 0))) rfl 2 size_i64c (heap_at w5 _ _ rfl) (by omega) rfl ?_; rw [vrow_over_all, setRow_at _ _ _ _ _ rfl]; have Ls := Go.Lib.hid (heap_at w5 (.cells (vrow 1 fun _ => .int .i64 (oM3 v P (0, 0))) 2) _ rfl); replace Wn := Go.Lib.hid (heap_past w5 (.cells (vrow 1 fun _ => .int .i64 (oM3 v P (0, 0))) 2) _ _ (row_lt Wn.out) Wn.out); replace Pt := Go.Lib.hid (heap_past w5 (.cells (vrow 1 fun _ => .int .i64 (oM3 v P (0, 0))) 2) _ _ (row_lt Pt.out) Pt.out); replace Zr := Go.Lib.hid (heap_past w5 (.cells (vrow 1 fun _ => .int .i64 (oM3 v P (0, 0))) 2) _ _ (row_lt Zr.out) Zr.out); replace Bs := Go.Lib.hid (heap_past w5 (.cells (vrow 1 fun _ => .int .i64 (oM3 v P (0, 0))) 2) _ _ (row_lt Bs.out) Bs.out); replace hB := Go.Lib.hid (hB.out.alloc hB.out.size (.cells (vrow 1 fun _ => .int .i64 (oM3 v P (0, 0))) 2)); obtain ⟨lb, hlb⟩ : ∃ z, w5.heap.size = z := ⟨_, rfl⟩; rw [hlb] at Ls hs5 ⊢; generalize World.alloc w5 _ = W6 at Wn Pt Zr Bs Ls hB ⊢; clear hlb)
    | ((with_reducible refine wlAt 18 rfl ?_); refine wpList_load1 rfl 2 (.tmp 3) rfl (w.heap.size + 1) 0 rfl 1 (fun _ => .int .i64 P) _ _ Tryd.underlying2 rfl Pt.out (by omega) ?_))
  have hlb : w.heap.size + 3 < lb := by omega
  have a1 := Wn.out; have a2 := Pt.out; have a3 := Zr.out; have a4 := Bs.out; have a5 := Ls.out; have a6 := hB.out
  clear Wn Pt Zr Bs Ls hB hs5 HF hs4
  go_loopw [20] (fun iv wr => ∃ k : Nat, k ≤ n + 1 ∧ iv = .int .i64 k ∧ wr.heap[w.heap.size]? = some (.cells (vrow 3 (i3 v)) 22) ∧ wr.heap[w.heap.size + 1]? = some (.cells (vrow 1 fun _ => .int .i64 P) 2) ∧ wr.heap[lb]? = some (.cells (vrow 1 fun _ => .int .i64 (oM3 v P (outM v P n k))) 2) ∧ wr.heap[w.heap.size + 3]? = some (.cells (vrow 3 (i3 (mxM P (outM v P n k)))) 22) ∧ wr.heap[w.heap.size + 2]? = some (.cells (vrow 3 fun _ => .int .i64 0) 22) ∧ Below w.heap.size w wr) (fun iv _ => n + 1 - (intOf iv).toNat)
  case atStart => exact ⟨0, by omega, rfl, a1, a2, a5, a4, a3, a6⟩
  case round =>
    clear a1 a2 a3 a4 a5 a6
    obtain ⟨k, hk, rfl, Wn, Pt, Ls, Bs, Zr, hB⟩ := hrel
    by_cases hlt : k < n + 1
    · have hkd : decide ((k : Int) < P + 1) = true := by simp; omega
      have hq1 : IntKind.i64.wrap (P - k) = P - k := IntWalk.i64_in _ (by omega)
      have hq2 : IntKind.i64.wrap (P - k + 1) = P - k + 1 := IntWalk.i64_in _ (by omega)
      have hob := outM_bd (v := v) (P := P) (n := n) k (by omega)
      have hst := Go.Lib.hid (show outM v P n (k + 1) = innM v P k (n - k + 1) (outM v P n k) from rfl)
      generalize outM v P n k = s0 at *
      replace Wn := Go.Lib.hid Wn; replace Pt := Go.Lib.hid Pt; replace Zr := Go.Lib.hid Zr; replace Ls := Go.Lib.hid Ls; replace Bs := Go.Lib.hid Bs; replace hB := Go.Lib.hid hB
      go_wp2_with (first
        | go_skip
        | ((with_reducible refine wlAt 23 rfl ?_); refine wpList_load1 rfl 2 (.tmp 3) rfl (w.heap.size + 1) 0 rfl 1 (fun _ => .int .i64 P) _ _ Tryd.underlying2 rfl Pt.out (by omega) ?_))
      have a1 := Wn.out; have a2 := Pt.out; have a3 := Zr.out; have a4 := Bs.out; have a5 := Ls.out; have a6 := hB.out
      clear Wn Pt Zr Bs Ls hB
      go_loopw [27] (fun iv wz => ∃ j : Nat, j ≤ n - k + 1 ∧ iv = .int .i64 j ∧ wz.heap[w.heap.size]? = some (.cells (vrow 3 (i3 v)) 22) ∧ wz.heap[w.heap.size + 1]? = some (.cells (vrow 1 fun _ => .int .i64 P) 2) ∧ wz.heap[lb]? = some (.cells (vrow 1 fun _ => .int .i64 (oM3 v P (innM v P k j s0))) 2) ∧ wz.heap[w.heap.size + 3]? = some (.cells (vrow 3 (i3 (mxM P (innM v P k j s0)))) 22) ∧ wz.heap[w.heap.size + 2]? = some (.cells (vrow 3 fun _ => .int .i64 0) 22) ∧ Below w.heap.size w wz) (fun iv _ => n - k + 1 - (intOf iv).toNat)
      case atStart => exact ⟨0, by omega, rfl, a1, a2, a5, a4, a3, a6⟩
      case round =>
        clear a1 a2 a3 a4 a5 a6
        obtain ⟨j, hj, rfl, Wn, Pt, Ls, Bs, Zr, hB⟩ := hrel
        by_cases hltj : j < n - k + 1
        · have hkd2 : decide ((j : Int) < P - k + 1) = true := by simp; omega
          have hq3 : IntKind.i64.wrap (P - k - j) = P - k - j := IntWalk.i64_in _ (by omega)
          have hib := innM_bd (v := v) (P := P) (n := n) (a := k) (by omega) j s0 hob (by omega)
          have hst2 := Go.Lib.hid (show innM v P k (j + 1) s0 = kpM v P (innM v P k j s0) (k, j) from rfl)
          have hmi := mx_in (show P = n by omega) hn.2 (q := (k, j)) (by show k + j ≤ n; omega)
          have hmd : tri (k : Int) (j : Int) (P - k - j) = mxM P (k, j) := rfl
          generalize innM v P k j s0 = s1 at *
          have HK : ∀ W : World, W.heap.size = W.heap.size → w.heap.size ≤ W.heap.size → W.heap[w.heap.size]? = some (.cells (vrow 3 (i3 v)) 22) → W.heap[w.heap.size + 1]? = some (.cells (vrow 1 fun _ => .int .i64 P) 2) → W.heap[lb]? = some (.cells (vrow 1 fun _ => .int .i64 (oM3 v P s1)) 2) → W.heap[w.heap.size + 3]? = some (.cells (vrow 3 (i3 (mxM P s1))) 22) → W.heap[w.heap.size + 2]? = some (.cells (vrow 3 fun _ => .int .i64 0) 22) → Calls Tryd.prog 18 (#[.agg (vrow 3 (i3 (mxM P (k, j))))] ++ #[.pointer (some ⟨w.heap.size, 0, none⟩), .pointer (some ⟨w.heap.size + 1, 0, none⟩), .pointer (some ⟨lb, 0, none⟩), .pointer (some ⟨w.heap.size + 3, 0, none⟩)]) W fun e w' => e = .returned (.tuple #[]) ∧ w'.heap[w.heap.size]? = some (.cells (vrow 3 (i3 v)) 22) ∧ w'.heap[w.heap.size + 1]? = some (.cells (vrow 1 fun _ => .int .i64 P) 2) ∧ w'.heap[lb]? = some (.cells (vrow 1 fun _ => .int .i64 (oM3 v P (kpM v P s1 (k, j)))) 2) ∧ w'.heap[w.heap.size + 3]? = some (.cells (vrow 3 (i3 (mxM P (kpM v P s1 (k, j))))) 22) ∧ w'.heap[w.heap.size + 2]? = some (.cells (vrow 3 fun _ => .int .i64 0) 22) ∧ Below w.heap.size W w' := by
            intro W _ hs h1 h2 h3 h4 h5
            by_cases hd : oM3 v P (k, j) < oM3 v P s1
            · have e1 : kpM v P s1 (k, j) = (k, j) := if_pos hd
              rw [e1]
              exact keep_yes (mxM P (k, j)) (mxM P s1) v P (oM3 v P s1) w.heap.size (w.heap.size + 1) lb (w.heap.size + 3) (w.heap.size + 2) w.heap.size W hmi hv hP h1 h2 h3 h4 h5 (by omega) (by omega) (by omega) (by omega) (Nat.le_refl _) (decide_eq_true hd)
            · have e1 : kpM v P s1 (k, j) = s1 := if_neg hd
              rw [e1]
              exact keep_no (mxM P (k, j)) (mxM P s1) v P (oM3 v P s1) w.heap.size (w.heap.size + 1) lb (w.heap.size + 3) (w.heap.size + 2) w.heap.size W hmi hv hP h1 h2 h3 h4 h5 (by omega) (by omega) (by omega) (by omega) (Nat.le_refl _) (decide_eq_false hd)
          replace HK := Go.Lib.hid HK
          have HMD := Go.Lib.hid hmd
          clear hmd
          replace Wn := Go.Lib.hid Wn; replace Pt := Go.Lib.hid Pt; replace Zr := Go.Lib.hid Zr; replace Ls := Go.Lib.hid Ls; replace Bs := Go.Lib.hid Bs; replace hB := Go.Lib.hid hB
          go_wp2_with (first
            | go_skip
            | ((with_reducible refine wlAt 33 rfl ?_); refine wpList_load1 rfl 2 (.tmp 3) rfl (w.heap.size + 1) 0 rfl 1 (fun _ => .int .i64 P) _ _ Tryd.underlying2 rfl Pt.out (by omega) ?_)
            | ((with_reducible refine wlAt 38 rfl ?_); refine wpList_built rfl 22 [(0, .tmp 31), (1, .tmp 32), (2, .tmp 37)] rfl [(0, .int .i64 k), (1, .int .i64 j), (2, .int .i64 (P - k - j))] (by rfl) _ (built_tri k j (P - k - j)) ?_; rw [HMD.out])
            | (go_at_call 18; (refine (HK.out _ rfl hB.out.size Wn.out Pt.out Ls.out Bs.out Zr.out).mono ?_); rintro o w8 ⟨rfl, b1, b2, b3, b4, b5, hb⟩; have c1 := hB.out.trans hb; clear Wn Pt Ls Bs Zr hB hb))
          go_roundw
          case rel => exact ⟨j + 1, by omega, by go_num, b1, b2, by rw [hst2.out]; exact b3, by rw [hst2.out]; exact b4, b5, c1⟩
          case measure => simp [intOf]; omega
        · obtain rfl : j = n - k + 1 := by omega
          have hkd2 : decide (((n - k + 1 : Nat) : Int) < P - k + 1) = false := by simp; omega
          go_wp2
          go_roundw
          case rel => exact ⟨k + 1, by omega, by go_num, Wn, Pt, by rw [hst.out]; exact Ls, by rw [hst.out]; exact Bs, Zr, hB⟩
          case measure => simp [intOf]; omega
    · obtain rfl : k = n + 1 := by omega
      have hkd : decide (((n + 1 : Nat) : Int) < P + 1) = false := by simp; omega
      obtain ⟨s9, h9⟩ : ∃ z, outM v P n (n + 1) = z := ⟨_, rfl⟩
      rw [h9] at Ls Bs
      replace h9 := Go.Lib.hid h9
      replace Wn := Go.Lib.hid Wn; replace Pt := Go.Lib.hid Pt; replace Zr := Go.Lib.hid Zr; replace Ls := Go.Lib.hid Ls; replace Bs := Go.Lib.hid Bs; replace hB := Go.Lib.hid hB
      go_wp2
      (try simp only [Act.put])
      refine wp_region_noPanic ?_
      refine wp_region_held_drew (S := fun X => Below w.heap.size w X ∧ X.heap[lb]? = some (.cells (vrow 1 fun _ => .int .i64 (oM3 v P s9)) 2) ∧ X.heap[w.heap.size + 3]? = some (.cells (vrow 3 (i3 (mxM P s9))) 22)) (by kernel_rfl) ⟨hB.out.drew, drwT Ls.out, drwT Bs.out⟩ (fun hH => ?_)
      have V := drwT Zr.out
      clear hB Ls Bs Zr Wn Pt
      generalize World.drew _ = W at hH V ⊢
      refine wpAnyH_take (i := 0) (v := (.agg (vrow 3 (i3 (mxM P s9))))) rfl (by kernel_rfl) (by kernel_rfl) (by kernel_rfl) (fun _ _ _ h => h) (yields_row (by kernel_rfl) 22 _ rfl (w.heap.size + 3) rfl 3 (i3 (mxM P s9)) 22 _ Tryd.underlying22 rfl size_i3 (fun _ h => h.2.2)) hH ?_
      (try simp only [List.getElem_toArray, List.getElem_cons_succ, List.getElem_cons_zero, Act.put, List.setIfInBounds_toArray, List.set_cons_succ, List.set_cons_zero])
      refine wpAnyH_take (i := 1) (v := (.int .i64 (oM3 v P s9))) rfl (by kernel_rfl) (by kernel_rfl) (by kernel_rfl) (fun _ _ _ h => h) (yields_one (by kernel_rfl) 2 _ rfl lb 0 rfl 1 (fun _ => .int .i64 (oM3 v P s9)) 2 _ Tryd.underlying2 rfl (by omega) (fun _ h => h.2.1)) hH ?_
      (try simp only [List.getElem_toArray, List.getElem_cons_succ, List.getElem_cons_zero, Act.put, List.setIfInBounds_toArray, List.set_cons_succ, List.set_cons_zero])
      refine wpAnyH_ready (rs := [2]) (by kernel_rfl) (by simp) (AllReadyH.cons rfl (fun K hK => ?_) AllReadyH.nil)
      rw [if_pos (by rfl)]
      unfold Oper.wp
      rw [run_storemid 22 (.tmp 4) (.tmp 42) rfl (w.heap.size + 2) 0 rfl 3 3 (fun _ => .int .i64 0) (i3 (mxM P s9)) rfl 22 size_i3 V (by omega) (fun i _ => i3_one _ i), vrow_over_all, Oper.upon_skip]
      replace V := row_set V (vrow 3 (i3 (mxM P s9)))
      have hH2 : Below w.heap.size w (W.setRow (w.heap.size + 2) (vrow 3 (i3 (mxM P s9)))) ∧ (W.setRow (w.heap.size + 2) (vrow 3 (i3 (mxM P s9)))).heap[lb]? = some (.cells (vrow 1 fun _ => .int .i64 (oM3 v P s9)) 2) ∧ (W.setRow (w.heap.size + 2) (vrow 3 (i3 (mxM P s9)))).heap[w.heap.size + 3]? = some (.cells (vrow 3 (i3 (mxM P s9))) 22) := ⟨Below_setRow hH.1 (show w.heap.size ≤ w.heap.size + 2 by omega) _, row_set' (g := w.heap.size + 2) (by omega) hH.2.1 _, row_set' (g := w.heap.size + 2) (by omega) hH.2.2 _⟩
      refine hK.out _ _ hH2 (fun hH => ?_)
      clear hK K hH2
      (try simp only [List.getElem_toArray, List.getElem_cons_succ, List.getElem_cons_zero, Act.put, List.setIfInBounds_toArray, List.set_cons_succ, List.set_cons_zero])
      refine wpAnyH_take (i := 3) (v := (.int .i64 (oM3 v P s9))) rfl (by kernel_rfl) (by kernel_rfl) (by kernel_rfl) (fun _ _ _ h => h) (.inl ⟨by kernel_rfl, fun w hw => by go_simp⟩) hH ?_
      (try simp only [List.getElem_toArray, List.getElem_cons_succ, List.getElem_cons_zero, Act.put, List.setIfInBounds_toArray, List.set_cons_succ, List.set_cons_zero])
      refine wpAnyH_done (by kernel_rfl) ?_ _
      refine NoPanic.normal ?_
      (try simp only [List.getElem_toArray, List.getElem_cons_succ, List.getElem_cons_zero, Act.put, List.setIfInBounds_toArray, List.set_cons_succ, List.set_cons_zero])
      have Zr := Go.Lib.hid V; have hB := Go.Lib.hid hH.1
      clear V hH
      go_wp2
      exact ret_row2 Tryd.results12 (w.heap.size + 2) 3 (i3 (mxM P s9)) 22 _ Tryd.underlying22 rfl size_i3 (.int .i64 (oM3 v P s9)) rfl rfl rfl Zr.out ⟨by rw [h9.out], hB.out⟩
end Go.Proofs.YtdagbddmgeoanaaDoor
