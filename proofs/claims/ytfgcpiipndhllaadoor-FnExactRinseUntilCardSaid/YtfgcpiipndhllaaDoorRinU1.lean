import Derived.Deep.RegionHeld3
import Derived.Test.YtfgcpiipndhllaaDoorRinT
import Derived.Test.YtfgcpiipndhllaaDoorRinS
import Derived.Test.YtfgcpiipndhllaaDoorDark
namespace Go.Proofs.YtfgcpiipndhllaaDoor
open Go.RowKit
set_option maxRecDepth 100000
set_option linter.unusedVariables false
set_option linter.unusedSimpArgs false
theorem lmaxU (a b : Int) (w : World) : Calls Tryd.prog 121 #[.int .i64 a, .int .i64 b] w fun e w' => e = .returned (.int .i64 (max a b)) ∧ Below w.heap.size w w' := by
  by_cases h : b < a
  · rw [Int.max_eq_left (by omega)]
    have hd : decide (b < a) = true := by simpa using h
    go_enter Tryd.func121, Tryd.ntmps121
    go_wp2
    go_ret
    exact ⟨rfl, Below.refl _ _⟩
  · rw [Int.max_eq_right (by omega)]
    have hd : decide (b < a) = false := by simpa using h
    go_enter Tryd.func121, Tryd.ntmps121
    go_wp2
    go_ret
    exact ⟨rfl, Below.refl _ _⟩
/-- sums of three, below i -/
def sum3 (p q : Nat → Int) (i m : Nat) : Int := if m < i then p m + q m else p m
theorem sum3_set (p q : Nat → Int) (i : Nat) : vrow 3 (over (a3f (sum3 p q i)) i 1 fun _ => .int .i64 (p i + q i)) = vrow 3 (a3f (sum3 p q (i + 1))) := by
  rw [a3f_set]
  refine vrow_ext _ _ _ fun m _ => ?_
  unfold a3f sum3
  dsimp only
  by_cases h : m = i
  · subst h; rw [if_pos rfl, if_pos (by omega)]
  · rw [if_neg h]
    by_cases h2 : m < i
    · rw [if_pos h2, if_pos (by omega)]
    · rw [if_neg h2, if_neg (by omega)]
theorem sum3_at (p q : Nat → Int) (i : Nat) : a3f (sum3 p q i) i = .int .i64 (p i) := by unfold a3f sum3; rw [if_neg (by omega)]
theorem sum3_0 (p q : Nat → Int) : vrow 3 (a3f p) = vrow 3 (a3f (sum3 p q 0)) := vrow_ext _ _ _ fun m _ => by unfold a3f sum3; rw [if_neg (by omega)]
theorem sum3_3 (p q : Nat → Int) : vrow 3 (a3f (sum3 p q 3)) = vrow 3 (a3f fun m => p m + q m) := vrow_ext _ _ _ fun m hm => by unfold a3f sum3; rw [if_pos hm]
theorem sum_norm {a b : Int} (h : -4000000 ≤ a + b ∧ a + b ≤ 4000000) : IntKind.i64.wrap (a + b) = a + b := IntWalk.i64_in (a + b) (by omega)
set_option maxHeartbeats 2000000 in
theorem lplus_any (p q : Nat → Int) (hb : ∀ m, m < 3 → -4000000 ≤ p m + q m ∧ p m + q m ≤ 4000000) (w : World) : Calls Tryd.prog 67 #[.agg (vrow 3 (a3f p)), .agg (vrow 3 (a3f q))] w fun e w' => e = .returned (.agg (vrow 3 (a3f fun m => p m + q m))) ∧ Below w.heap.size w w' := by
  have zz := zero_i3
  have A : Hid (((((w.alloc (.cells (vrow 3 (a3f p)) 40)).alloc (.cells (vrow 3 (a3f q)) 40)).alloc (.cells (vrow 3 (fun _ => .int .i64 0)) 40))).heap[w.heap.size]? = some (.cells (vrow 3 (a3f p)) 40)) := heap_past _ _ _ _ (by simp <;> omega) (heap_past _ _ _ _ (by simp <;> omega) (heap_at _ _ _ (by simp)))
  have B : Hid (((((w.alloc (.cells (vrow 3 (a3f p)) 40)).alloc (.cells (vrow 3 (a3f q)) 40)).alloc (.cells (vrow 3 (fun _ => .int .i64 0)) 40))).heap[w.heap.size + 1]? = some (.cells (vrow 3 (a3f q)) 40)) := heap_past _ _ _ _ (by simp <;> omega) (heap_at _ _ _ (by simp))
  have Z : Hid (((((w.alloc (.cells (vrow 3 (a3f p)) 40)).alloc (.cells (vrow 3 (a3f q)) 40)).alloc (.cells (vrow 3 (fun _ => .int .i64 0)) 40))).heap[w.heap.size + 2]? = some (.cells (vrow 3 (fun _ => .int .i64 0)) 40)) := heap_at _ _ _ (by simp)
  have hB : Hid (Below w.heap.size w ((((w.alloc (.cells (vrow 3 (a3f p)) 40)).alloc (.cells (vrow 3 (a3f q)) 40)).alloc (.cells (vrow 3 (fun _ => .int .i64 0)) 40)))) := ((((Below.refl w.heap.size w).alloc (by simp <;> omega) _).alloc (by simp <;> omega) _).alloc (by simp <;> omega) _)
  go_enter Tryd.func67, Tryd.ntmps67
  go_wp2
  go_loopw [5] (fun iv wr => ∃ i : Nat, i ≤ 3 ∧ iv = .int .i64 i ∧ wr.heap[w.heap.size]? = some (.cells (vrow 3 (a3f (sum3 p q i))) 40) ∧ wr.heap[w.heap.size + 1]? = some (.cells (vrow 3 (a3f q)) 40) ∧ wr.heap[w.heap.size + 2]? = some (.cells (vrow 3 (fun _ => .int .i64 0)) 40) ∧ Below w.heap.size w wr) (fun iv _ => 3 - (intOf iv).toNat)
  case atStart => exact ⟨0, by omega, rfl, by rw [← sum3_0]; exact A.out, B.out, Z.out, hB.out⟩
  case round =>
    clear A B Z hB
    obtain ⟨i, hi, rfl, A, B, Z, hB⟩ := hrel
    replace A := Go.Lib.hid A; replace B := Go.Lib.hid B; replace Z := Go.Lib.hid Z; replace hB := Go.Lib.hid hB
    by_cases hlt : i < 3
    · have hiI : (i : Int) < 3 := by omega
      have hs := sum_norm (hb i hlt)
      replace hs := Go.Lib.hid hs
      go_wp2
      refine wp_region_still_tail 8 (by kernel_rfl) (by kernel_rfl) ?_
      simp only [List.take_succ_cons, List.take_zero, List.drop_succ_cons, List.drop_zero, World.drew_eq]
      repeat (first
        | (refine wpStill_load1 rfl 2 (.tmp 11) rfl w.heap.size i rfl 3 (a3f (sum3 p q i)) _ _ Tryd.underlying2 rfl A.out (by omega) ?_; rw [sum3_at]; simp only [Act.put, List.setIfInBounds_toArray, List.set_cons_succ, List.set_cons_zero])
        | (refine wpStill_load1 rfl 2 (.tmp 14) rfl (w.heap.size + 1) i rfl 3 (a3f q) _ _ Tryd.underlying2 rfl B.out (by omega) ?_; rw [show a3f q i = .int .i64 (q i) from rfl]; simp only [Act.put, List.setIfInBounds_toArray, List.set_cons_succ, List.set_cons_zero])
        | still_step
        | (refine wpStill_step (fun K hK => ?_); go_simp; simp only [hiI, if_true]; go_simp; refine hK _ ?_; clear hK K))
      refine wpStill_nil ?_
      replace A := Go.Lib.hid (drwS A.out); replace B := Go.Lib.hid (drwS B.out); replace Z := Go.Lib.hid (drwS Z.out); replace hB := Go.Lib.hid hB.out.drew
      generalize World.drew _ = w4 at A B Z hB ⊢
      refine wpList_store1 rfl 2 (.tmp 17) (.tmp 16) rfl w.heap.size i rfl 3 (a3f (sum3 p q i)) (.int .i64 (p i + q i)) (by show Value.int .i64 (IntKind.i64.wrap (p i + q i)) = _; rw [hs.out]) 40 size_i64c A.out (by omega) rfl ?_
      rw [sum3_set]
      replace B := Go.Lib.hid (row_set' (g := w.heap.size) (show w.heap.size + 1 ≠ w.heap.size by omega) B.out (vrow 3 (a3f (sum3 p q (i + 1)))))
      replace Z := Go.Lib.hid (row_set' (g := w.heap.size) (show w.heap.size + 2 ≠ w.heap.size by omega) Z.out (vrow 3 (a3f (sum3 p q (i + 1)))))
      replace A := Go.Lib.hid (row_set A.out (vrow 3 (a3f (sum3 p q (i + 1)))))
      replace hB := Go.Lib.hid (Below_setRow hB.out (Nat.le_refl _) (vrow 3 (a3f (sum3 p q (i + 1)))))
      go_wp2
      go_roundw
      case rel => exact ⟨i + 1, by omega, by go_num, A.out, B.out, Z.out, hB.out⟩
      case measure => simp [intOf]; omega
    · obtain rfl : i = 3 := by omega
      replace A := A.out
      rw [sum3_3] at A
      replace A := Go.Lib.hid A
      go_wp2_with (first
        | go_skip
        | ((with_reducible refine wlAt 18 rfl ?_); refine wpList_loadall rfl 40 (.tmp 2) rfl _ rfl 3 (a3f fun m => p m + q m) 40 _ Tryd.underlying40 rfl size_i3 A.out ?_)
        | ((with_reducible refine wlOp (.store 40 (.tmp 4) (.tmp 18)) rfl ?_); refine wpList_storeall rfl 40 (.tmp 4) (.tmp 18) rfl (w.heap.size + 2) rfl 3 (fun _ => .int .i64 0) (a3f fun m => p m + q m) rfl 40 size_i3 Z.out (fun _ _ => rfl) ?_; replace Z := Go.Lib.hid (row_set Z.out (vrow 3 (a3f fun m => p m + q m))); replace hB := Go.Lib.hid (Below_setRow hB.out (show w.heap.size ≤ w.heap.size + 2 by omega) (vrow 3 (a3f fun m => p m + q m)))))
      exact ret_row Tryd.results67 (w.heap.size + 2) 3 (a3f fun m => p m + q m) 40 _ Tryd.underlying40 rfl size_i3 rfl rfl Z.out ⟨rfl, hB.out⟩
theorem idx_a3 (q : Nat → Int) (k : Nat) (hk : k < 3) (w : World) : (Instr.index 40 (.agg (vrow 3 (a3f q))) (.int .i64 k)).run Tryd.prog w = .ok (.int .i64 (q k)) w := by
  have i0 : ∀ (a b c : Value) (w : World), (Instr.index 40 (.agg #[a, b, c]) (.int .i64 0)).run Tryd.prog w = .ok a w := fun _ _ _ _ => by kernel_rfl
  have i1 : ∀ (a b c : Value) (w : World), (Instr.index 40 (.agg #[a, b, c]) (.int .i64 1)).run Tryd.prog w = .ok b w := fun _ _ _ _ => by kernel_rfl
  have i2 : ∀ (a b c : Value) (w : World), (Instr.index 40 (.agg #[a, b, c]) (.int .i64 2)).run Tryd.prog w = .ok c w := fun _ _ _ _ => by kernel_rfl
  have e : vrow 3 (a3f q) = #[.int .i64 (q 0), .int .i64 (q 1), .int .i64 (q 2)] := rfl
  rw [e]
  have : k = 0 ∨ k = 1 ∨ k = 2 := by omega
  rcases this with rfl | rfl | rfl
  · exact i0 _ _ _ _
  · exact i1 _ _ _ _
  · exact i2 _ _ _ _
set_option maxHeartbeats 2000000 in
theorem add_any (p q : Nat → Int) (d : Nat) (hb : ∀ m, m < 3 → -4000000 ≤ p m + q m ∧ p m + q m ≤ 4000000) (w : World) (hd : w.heap[d]? = some (.cells (vrow 3 (a3f p)) 40)) : Calls Tryd.prog 124 #[.pointer (some ⟨d, 0, none⟩), .agg (vrow 3 (a3f q))] w fun e w' => (∃ r, e = .returned r) ∧ w.grownBy w' (some d) ∧ w'.heap[d]? = some (.cells (vrow 3 (a3f fun m => p m + q m)) 40) := by
  have hdl := row_lt hd
  have A : Hid ((w.alloc (.cells (vrow 3 (a3f q)) 40)).heap[d]? = some (.cells (vrow 3 (a3f p)) 40)) := heap_past _ _ _ _ hdl hd
  have B : Hid ((w.alloc (.cells (vrow 3 (a3f q)) 40)).heap[w.heap.size]? = some (.cells (vrow 3 (a3f q)) 40)) := heap_at _ _ _ (by simp)
  have hG : Hid (w.grownBy (w.alloc (.cells (vrow 3 (a3f q)) 40)) (some d)) := grown_next (grown_refl w _) ((Below.refl _ _).alloc (Nat.le_refl _) _)
  clear hd
  go_enter Tryd.func124, Tryd.ntmps124
  go_wp2_with (first
    | go_skip
    | ((with_reducible refine wlAt 6 rfl ?_); refine wpList_loadall rfl 40 (.tmp 3) rfl _ rfl 3 (a3f q) 40 _ Tryd.underlying40 rfl size_i3 B.out ?_))
  go_loopw [7] (fun iv wr => ∃ i : Nat, i ≤ 3 ∧ iv = .int .i64 i ∧ wr.heap[d]? = some (.cells (vrow 3 (a3f (sum3 p q i))) 40) ∧ w.grownBy wr (some d)) (fun iv _ => 3 - (intOf iv).toNat)
  case atStart => exact ⟨0, by omega, rfl, by rw [← sum3_0]; exact A.out, hG.out⟩
  case round =>
    clear A B hG
    obtain ⟨i, hi, rfl, A, hG⟩ := hrel
    replace A := Go.Lib.hid A; replace hG := Go.Lib.hid hG
    by_cases hlt : i < 3
    · have hiI : (i : Int) < 3 := by omega
      have hix := idx_a3 q i hlt
      have hs := sum_norm (hb i hlt)
      replace hs := Go.Lib.hid hs
      go_wp2
      refine wp_region_still_tail 9 (by kernel_rfl) (by kernel_rfl) ?_
      simp only [List.take_succ_cons, List.take_zero, List.drop_succ_cons, List.drop_zero, World.drew_eq]
      repeat (first
        | (refine wpStill_load1 rfl 2 (.tmp 14) rfl d i rfl 3 (a3f (sum3 p q i)) _ _ Tryd.underlying2 rfl A.out (by omega) ?_; rw [sum3_at]; simp only [Act.put, List.setIfInBounds_toArray, List.set_cons_succ, List.set_cons_zero])
        | still_step
        | (refine wpStill_step (fun K hK => ?_); go_simp; simp only [hiI, if_true]; go_simp; refine hK _ ?_; clear hK K))
      refine wpStill_nil ?_
      replace A := Go.Lib.hid (drwS A.out); replace hG := Go.Lib.hid (grown_drew hG.out)
      generalize World.drew _ = w4 at A hG ⊢
      refine wpList_store1 rfl 2 (.tmp 19) (.tmp 17) rfl d i rfl 3 (a3f (sum3 p q i)) (.int .i64 (p i + q i)) (by show Value.int .i64 (IntKind.i64.wrap (p i + q i)) = _; rw [hs.out]) 40 size_i64c A.out (by omega) rfl ?_
      rw [sum3_set]
      replace A := Go.Lib.hid (row_set A.out (vrow 3 (a3f (sum3 p q (i + 1)))))
      replace hG := Go.Lib.hid (grown_set hG.out (vrow 3 (a3f (sum3 p q (i + 1)))))
      go_wp2
      go_roundw
      case rel => exact ⟨i + 1, by omega, by go_num, A.out, hG.out⟩
      case measure => simp [intOf]; omega
    · obtain rfl : i = 3 := by omega
      replace A := A.out
      rw [sum3_3] at A
      go_wp2
      first | go_end0 | go_ret
      exact ⟨⟨_, rfl⟩, hG.out, A⟩
theorem best_snd (f : Nat → Nat → Int) (b : (Nat × Nat) × Int) (p : Sp8) : (bestStep f b p).2 = max b.2 (f p.1.1 p.1.2) := by
  unfold bestStep
  by_cases h : b.2 < f p.1.1 p.1.2
  · rw [if_pos h, Int.max_eq_right (by omega)]
  · rw [if_neg h, Int.max_eq_left (by omega)]
set_option maxHeartbeats 4000000 in
theorem ldk_any (s : Sh) (b a c : Nat) (w : World) (hs : w.heap[b]? = some (.cells (vrow 266 s.at) 36)) (ea : s.wide = a) (ec : s.high = c) (ha : 1 ≤ a ∧ a ≤ 8) (hc : 1 ≤ c ∧ c ≤ 8) (hf : s.fit) :
    Calls Tryd.prog 66 #[.pointer (some ⟨b, 0, none⟩)] w fun e w' => e = .returned (.int .i64 (dk (cellsL a c) s)) ∧ Below w.heap.size w w' := by
  have HSp := Go.Lib.hid fun w hs => spots_any s b a c w hs ea ec ha.2 hc.2
  have HD := Go.Lib.hid fun x y w hs hx hy => ldark_any s b x y w hs hx hy hf
  have hn : (cellsL a c).length = a * c := cellsL_length a c
  have hac : 1 ≤ a * c ∧ a * c ≤ 64 := ⟨Nat.mul_le_mul ha.1 hc.1, Nat.mul_le_mul ha.2 hc.2⟩
  rw [← hn] at hac
  unfold dk
  generalize cellsL a c = L at *
  clear hn ea ec ha hc hf
  have hbs := row_lt hs
  have P := Go.Lib.hid hs
  have hB : Hid (Below w.heap.size w w) := Below.refl _ _
  clear hs
  go_enter Tryd.func66, Tryd.ntmps66
  go_wp2_with (first
    | go_skip
    | (go_at_call 56; (refine (HSp.out _ P.out).mono ?_; rintro e w1 ⟨v, rfl, hO, hb⟩; replace P := Go.Lib.hid (row_next hb P.out); replace hB := Go.Lib.hid (below_next hB.out hb))))
  obtain ⟨g, cap, f, rfl, hg, hcap, hO2, hf2⟩ := hO.row (by omega)
  have G := Go.Lib.hid hO2; have HF := Go.Lib.hid hf2
  clear hO hO2 hf2 hb hg
  obtain ⟨wo, hwo⟩ : ∃ wo : World, wo = w1 := ⟨_, rfl⟩
  rw [← hwo] at P hB G ⊢
  clear hwo w1
  go_loopw [3, 5] (fun mv iv wr => ∃ q : Nat, q ≤ L.length ∧ iv = .int .i64 q ∧ mv = .int .i64 (best (darkB s) (L.take q)).2 ∧ wr.heap[b]? = some (.cells (vrow 266 s.at) 36) ∧ wr.heap[g]? = some (.cells (vrow (cap * 2) f) 33) ∧ Below w.heap.size w wr) (fun _ iv _ => L.length - (intOf iv).toNat)
  case atStart => exact ⟨0, by omega, rfl, rfl, P.out, G.out, hB.out⟩
  case round =>
    clear P G hB
    obtain ⟨q, hq, rfl, rfl, P, G, hB⟩ := hrel
    replace P := Go.Lib.hid P; replace G := Go.Lib.hid G; replace hB := Go.Lib.hid hB
    by_cases hlt : q < L.length
    · have hst : (best (darkB s) (L.take (q + 1))).2 = max (best (darkB s) (L.take q)).2 (darkB s (L[q]'hlt).1.1 (L[q]'hlt).1.2) := by
        rw [List.take_succ_eq_append_getElem hlt, best_app, best_snd]
      have HFk := HF.out q hlt
      have HR := Go.Lib.hid (row_spot f (q * 2) (L[q]'hlt) HFk)
      obtain ⟨⟨⟨x, y⟩, hx, hy⟩, hp⟩ : ∃ p, L[q]'hlt = p := ⟨_, rfl⟩
      rw [hp] at hst HR
      clear hp HFk
      replace hx : x < 8 := hx
      replace hy : y < 8 := hy
      replace HR : Hid (vrow 2 (fun i => f (q * 2 + i)) = #[.int .i8 x, .int .i8 y]) := HR
      replace hst : (best (darkB s) (L.take (q + 1))).2 = max (best (darkB s) (L.take q)).2 (darkB s x y) := hst
      generalize (best (darkB s) (L.take q)).2 = mo at *
      have HST := Go.Lib.hid hst
      clear hst
      have HDx := Go.Lib.hid fun w hs => HD.out x y w hs hx hy
      have HMX := Go.Lib.hid fun w => lmaxU mo (darkB s x y) w
      generalize darkB s x y = dv at HST HDx HMX
      have hqI : (q : Int) < (L.length : Int) := by omega
      have hq0 : (0 : Int) ≤ (q : Int) := by omega
      have hqd : decide ((q : Int) < (L.length : Int)) = true := by simpa using hqI
      go_wp2_with (first
        | go_skip
        | ((with_reducible refine wlAt 19 rfl ?_); refine wpList_loadmid rfl 33 (.tmp 18) rfl g (q * 2) rfl (cap * 2) 2 f 33 _ Tryd.underlying33 rfl size_spot G.out (by omega) ?_; rw [HR.out])
        | (go_at_call 122; (refine (HDx.out _ P.out).mono ?_; rintro e w1 ⟨rfl, hb⟩; replace P := Go.Lib.hid (row_next hb P.out); replace G := Go.Lib.hid (row_next hb G.out); replace hB := Go.Lib.hid (below_next hB.out hb); clear hb))
        | (go_at_call 121; (refine (HMX.out _).mono ?_; rintro e w2 ⟨rfl, hb⟩; replace P := Go.Lib.hid (row_next hb P.out); replace G := Go.Lib.hid (row_next hb G.out); replace hB := Go.Lib.hid (below_next hB.out hb); clear hb)))
      go_roundw
      case rel => exact ⟨q + 1, by omega, by go_num, by rw [HST.out], P.out, G.out, hB.out⟩
      case measure => simp [intOf]; omega
    · obtain rfl : q = L.length := by omega
      have hqd : decide ((L.length : Int) < (L.length : Int)) = false := by simp
      rw [List.take_length]
      go_wp2
      go_ret
      exact ⟨rfl, hB.out⟩
end Go.Proofs.YtfgcpiipndhllaaDoor
