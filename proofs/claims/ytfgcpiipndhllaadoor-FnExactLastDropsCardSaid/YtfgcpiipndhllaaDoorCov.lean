import Derived.Test.YtfgcpiipndhllaaDoorPathN
import Derived.Test.YtfgcpiipndhllaaDoorPSpots
import Derived.Test.YtfgcpiipndhllaaDoorLdI
import Derived.Test.YtfgcpiipndhllaaDoorChos
import Derived.Test.YtfgcpiipndhllaaDoorPO
import Derived.Test.YtfgcpiipndhllaaDoorQT
namespace Go.Proofs.YtfgcpiipndhllaaDoor
open Go.RowKit
set_option maxRecDepth 100000
set_option linter.unusedVariables false
set_option linter.unusedSimpArgs false
/-- the places that a drop may cover, in their order -/
def nbX (x : Int) : Nat → Int
  | 1 => x - 1
  | 3 => x + 1
  | _ => x
def nbY (y : Int) : Nat → Int
  | 0 => y - 1
  | 4 => y + 1
  | _ => y
def nbF (x y : Int) : Nat → Value := fun i => if i % 2 = 0 then .int .i8 (nbX x (i / 2)) else .int .i8 (nbY y (i / 2))
theorem nb_pair (x y : Int) (k : Nat) : (vrow 2 fun i => nbF x y (k * 2 + i)) = vrow 2 (spAt (nbX x k) (nbY y k)) := vrow_ext _ _ _ fun i hi => by
  have h : i = 0 ∨ i = 1 := by omega
  rcases h with rfl | rfl
  · unfold nbF; rw [if_pos (by omega), show (k * 2 + 0) / 2 = k by omega]; rfl
  · unfold nbF; rw [if_neg (by omega), show (k * 2 + 1) / 2 = k by omega]; rfl
def covT (a c : Int) (x y : Int) (k : Nat) : List Sp8 := ((List.range k).filter fun i => insB a c (nbX x i) (nbY y i)).map fun i => mk8 (nbX x i).toNat (nbY y i).toNat
def cov (a c x y : Int) : List Sp8 := covT a c x y 5
theorem covT_step (a c x y : Int) (k : Nat) : covT a c x y (k + 1) = covT a c x y k ++ if insB a c (nbX x k) (nbY y k) then [mk8 (nbX x k).toNat (nbY y k).toNat] else [] := by
  unfold covT
  rw [List.range_succ, List.filter_append, List.map_append]
  congr 1
  cases h : insB a c (nbX x k) (nbY y k) <;> simp [List.filter_cons, h]
theorem covT_len (a c x y : Int) (k : Nat) : (covT a c x y k).length ≤ k := by
  unfold covT
  rw [List.length_map]
  exact Nat.le_trans (List.length_filter_le _ _) (by simp)
theorem ins_lt {a c u v : Int} (h : insB a c u v = true) (ha : a ≤ 8) (hc : c ≤ 8) : 0 ≤ u ∧ u < 8 ∧ 0 ≤ v ∧ v < 8 := by
  simp only [insB, Bool.and_eq_true, decide_eq_true_eq] at h
  omega
theorem vals_mk {u v : Int} (h : 0 ≤ u ∧ u < 8 ∧ 0 ≤ v ∧ v < 8) : vals [mk8 u.toNat v.toNat] = [.int .i8 u, .int .i8 v] := by
  rw [vals_one, mk8_x (by omega) (by omega), show ((u.toNat : Nat) : Int) = u by omega, show ((v.toNat : Nat) : Int) = v by omega]
theorem nb_rng (x y k : Nat) (hx : x < 8) (hy : y < 8) : (-128 ≤ nbX x k ∧ nbX x k ≤ 127) ∧ (-128 ≤ nbY y k ∧ nbY y k ≤ 127) := by
  unfold nbX nbY
  constructor <;> split <;> omega
set_option maxRecDepth 100000 in
set_option maxHeartbeats 4000000 in
theorem lcov_any (p : Pic) (b a c x y : Nat) (w : World) (hs : w.heap[b]? = some (.cells p.row 61)) (hf : p.fit) (ea : p.wide = a) (ec : p.high = c) (ha : a ≤ 8) (hc : c ≤ 8) (hx : x < 8) (hy : y < 8) :
    Calls Tryd.prog 136 #[.pointer (some ⟨b, 0, none⟩), .agg (vrow 2 (spAt x y))] w fun e w' => ∃ v, e = .returned v ∧ w'.ownsRow w.heap.size 33 2 v (cov a c x y).length (vals (cov a c x y)) ∧ Below w.heap.size w w' := by
  obtain ⟨i0, hi, hz0, hz1, hz2⟩ := info_parts info_spot
  have hbl := row_lt hs
  have N0 : Hid (∀ w, Calls Tryd.prog 174 #[.agg #[.int .i8 x, .int .i8 y], .int .i64 0] w fun e w' => e = .returned (.agg #[.int .i8 (x : Int), .int .i8 ((y : Int) - 1)]) ∧ Below w.heap.size w w') := Go.Lib.hid fun w => next_0 x y w hx hy
  have N1 : Hid (∀ w, Calls Tryd.prog 174 #[.agg #[.int .i8 x, .int .i8 y], .int .i64 1] w fun e w' => e = .returned (.agg #[.int .i8 ((x : Int) + 1), .int .i8 (y : Int)]) ∧ Below w.heap.size w w') := Go.Lib.hid fun w => next_1 x y w hx hy
  have N2 : Hid (∀ w, Calls Tryd.prog 174 #[.agg #[.int .i8 x, .int .i8 y], .int .i64 2] w fun e w' => e = .returned (.agg #[.int .i8 (x : Int), .int .i8 ((y : Int) + 1)]) ∧ Below w.heap.size w w') := Go.Lib.hid fun w => next_2 x y w hx hy
  have N3 : Hid (∀ w, Calls Tryd.prog 174 #[.agg #[.int .i8 x, .int .i8 y], .int .i64 3] w fun e w' => e = .returned (.agg #[.int .i8 ((x : Int) - 1), .int .i8 (y : Int)]) ∧ Below w.heap.size w w') := Go.Lib.hid fun w => next_3 x y w hx hy
  have HI : Hid (∀ k W, W.heap[b]? = some (.cells p.row 61) → Calls Tryd.prog 135 #[.pointer (some ⟨b, 0, none⟩), .agg (vrow 2 (spAt (nbX x k) (nbY y k)))] W fun e w' => e = .returned (.bool (insB a c (nbX x k) (nbY y k))) ∧ Below W.heap.size W w') :=
    Go.Lib.hid fun k W h => by have h1 := pis_any p b (nbX x k) (nbY y k) W h hf (nb_rng x y k hx hy).1 (nb_rng x y k hx hy).2; unfold hasP at h1; rw [ea, ec] at h1; exact h1
  have hB : Hid (Below w.heap.size w (w.alloc (.cells (vrow 2 (spAt x y)) 33))) := (Below.refl w.heap.size w).alloc (by simp <;> omega) _
  have P : Hid ((w.alloc (.cells (vrow 2 (spAt x y)) 33)).heap[b]? = some (.cells p.row 61)) := heap_past _ _ _ _ hbl hs
  have R : Hid ((w.alloc (.cells (vrow 2 (spAt x y)) 33)).heap[w.heap.size]? = some (.cells (vrow 2 (spAt x y)) 33)) := heap_at _ _ _ rfl
  clear hs hf ea ec
  go_enter Tryd.func136, Tryd.ntmps136
  go_wp2
  refine region_qt 9 (by kernel_rfl) (by kernel_rfl) ?_
  intro W hW
  rw [hW] at hB P R
  clear hW
  simp only [List.take_succ_cons, List.take_zero, List.drop_succ_cons, List.drop_zero]
  have R' := Go.Lib.hid (cls_row' R.out)
  (refine wpQuiet_loadmid 33 (.tmp 3) rfl (by first | exact want_n rfl | exact want_g _ _ _ rfl rfl rfl) w.heap.size _ rfl 2 2 (spAt x y) _ rw_spot size_spot R'.out (by omega) ?_; rw [sp_row]; simp only [Act.put, List.setIfInBounds_toArray, List.set_cons_succ, List.set_cons_zero])
  go_big_quiet_step ((go_at_call 174; exact cls_call _ (fun w hw => N0.out w)))
  (refine wpQuiet_loadmid 33 (.tmp 3) rfl (by first | exact want_n rfl | exact want_g _ _ _ rfl rfl rfl) w.heap.size _ rfl 2 2 (spAt x y) _ rw_spot size_spot R'.out (by omega) ?_; rw [sp_row]; simp only [Act.put, List.setIfInBounds_toArray, List.set_cons_succ, List.set_cons_zero])
  go_big_quiet_step ((go_at_call 174; exact cls_call _ (fun w hw => N3.out w)))
  (refine wpQuiet_loadmid 33 (.tmp 3) rfl (by first | exact want_n rfl | exact want_g _ _ _ rfl rfl rfl) w.heap.size _ rfl 2 2 (spAt x y) _ rw_spot size_spot R'.out (by omega) ?_; rw [sp_row]; simp only [Act.put, List.setIfInBounds_toArray, List.set_cons_succ, List.set_cons_zero])
  (refine wpQuiet_loadmid 33 (.tmp 3) rfl (by first | exact want_n rfl | exact want_g _ _ _ rfl rfl rfl) w.heap.size _ rfl 2 2 (spAt x y) _ rw_spot size_spot R'.out (by omega) ?_; rw [sp_row]; simp only [Act.put, List.setIfInBounds_toArray, List.set_cons_succ, List.set_cons_zero])
  go_big_quiet_step ((go_at_call 174; exact cls_call _ (fun w hw => N1.out w)))
  (refine wpQuiet_loadmid 33 (.tmp 3) rfl (by first | exact want_n rfl | exact want_g _ _ _ rfl rfl rfl) w.heap.size _ rfl 2 2 (spAt x y) _ rw_spot size_spot R'.out (by omega) ?_; rw [sp_row]; simp only [Act.put, List.setIfInBounds_toArray, List.set_cons_succ, List.set_cons_zero])
  go_big_quiet_step ((go_at_call 174; exact cls_call _ (fun w hw => N2.out w)))
  refine wpQuiet_nil ?_
  intro Wn hb
  replace P := Go.Lib.hid (row_next hb P.out); replace hB := Go.Lib.hid (below_next hB.out hb)
  clear hb R' R N0 N1 N2 N3
  go_wp2
  have hnb : (vrow 10 (nbF x y) : Array Value) = #[.int .i8 (x : Int), .int .i8 ((y : Int) - 1), .int .i8 ((x : Int) - 1), .int .i8 (y : Int), .int .i8 (x : Int), .int .i8 (y : Int), .int .i8 ((x : Int) + 1), .int .i8 (y : Int), .int .i8 (x : Int), .int .i8 ((y : Int) + 1)] := rfl
  rw [← hnb]
  clear hnb
  have hbn := row_lt P.out
  have G0 : ((Wn.alloc (.cells (vrow 10 (nbF x y)) 33)).alloc (.cells #[] 33)).heap[Wn.heap.size]? = some (.cells (vrow 10 (nbF x y)) 33) := heap_past _ _ _ _ (by simp) (heap_at _ _ _ rfl)
  have P0 : ((Wn.alloc (.cells (vrow 10 (nbF x y)) 33)).alloc (.cells #[] 33)).heap[b]? = some (.cells p.row 61) := heap_past _ _ _ _ (by simp; omega) (heap_past _ _ _ _ hbn P.out)
  have O0 : ((Wn.alloc (.cells (vrow 10 (nbF x y)) 33)).alloc (.cells #[] 33)).ownsRow (Wn.heap.size + 1) 33 2 (.slice (some ⟨Wn.heap.size + 1, 0, none⟩) 0 0) 0 [] := by
    have h : ((Wn.alloc (.cells (vrow 10 (nbF x y)) 33)).alloc (.cells #[] 33)).ownsRow (Wn.alloc (.cells (vrow 10 (nbF x y)) 33)).heap.size 33 2 (.slice (some ⟨(Wn.alloc (.cells (vrow 10 (nbF x y)) 33)).heap.size, 0, none⟩) 0 0) 0 [] := World.ownsRow_made _ #[] 0 (Nat.le_refl _) (by decide) rfl
    rw [show (Wn.alloc (.cells (vrow 10 (nbF x y)) 33)).heap.size = Wn.heap.size + 1 by simp] at h
    exact h
  have B0 : Below w.heap.size w ((Wn.alloc (.cells (vrow 10 (nbF x y)) 33)).alloc (.cells #[] 33)) := (hB.out.alloc hB.out.size _).alloc (by have := hB.out.size; simp; omega) _
  have hN0 : Wn.heap.size + 1 ≤ ((Wn.alloc (.cells (vrow 10 (nbF x y)) 33)).alloc (.cells #[] 33)).heap.size := by simp
  have hws := hB.out.size
  generalize ((Wn.alloc (.cells (vrow 10 (nbF x y)) 33)).alloc (.cells #[] 33)) = W0 at G0 P0 O0 B0 hN0 ⊢
  generalize Wn.heap.size = g at G0 O0 hbn hws hN0 ⊢
  clear P hB
  go_loopw [6, 7] (fun v iv wr => ∃ k : Nat, k ≤ 5 ∧ iv = .int .i64 k ∧ wr.ownsRow (g + 1) 33 2 v (covT a c x y k).length (vals (covT a c x y k)) ∧ wr.heap[b]? = some (.cells p.row 61) ∧ wr.heap[g]? = some (.cells (vrow 10 (nbF x y)) 33) ∧ g + 1 ≤ wr.heap.size ∧ Below w.heap.size w wr) (fun _ iv _ => 5 - (intOf iv).toNat)
  case atStart => exact ⟨0, by omega, rfl, by simpa [covT, vals] using O0, P0, G0, hN0, B0⟩
  case round =>
    clear O0 P0 G0 B0 hN0
    obtain ⟨k, hk, rfl, O, P, G, hN, hB⟩ := hrel
    have hsz := hB.size
    by_cases hlt : k < 5
    · have hst := covT_step a c x y k
      have hle := covT_len a c x y k
      have hrg := nb_rng x y k hx hy
      have hR : (vrow 2 fun z => nbF x y (k * 2 + z)) = #[.int .i8 (nbX x k), .int .i8 (nbY y k)] := nb_pair x y k
      have HI2 : Hid (∀ W, W.heap[b]? = some (.cells p.row 61) → Calls Tryd.prog 135 #[.pointer (some ⟨b, 0, none⟩), .agg #[.int .i8 (nbX x k), .int .i8 (nbY y k)]] W fun e w' => e = .returned (.bool (insB a c (nbX x k) (nbY y k))) ∧ Below W.heap.size W w') := Go.Lib.hid fun W h => HI.out k W h
      have HR := Go.Lib.hid hR; have HST := Go.Lib.hid hst
      clear hR hst HI
      have hin : insB a c (nbX x k) (nbY y k) = true → 0 ≤ nbX x k ∧ nbX x k < 8 ∧ 0 ≤ nbY y k ∧ nbY y k < 8 := fun h => ins_lt h (by omega) (by omega)
      have HIN := Go.Lib.hid hin
      clear hin
      generalize nbX x k = u at *
      generalize nbY y k = z at *
      generalize covT a c x y k = M at *
      replace P := Go.Lib.hid P; replace G := Go.Lib.hid G; replace O := Go.Lib.hid O; replace hB := Go.Lib.hid hB
      have hkI : (k : Int) < 5 := by omega
      have hk0 : (0 : Int) ≤ (k : Int) := by omega
      have hkd : decide ((k : Int) < 5) = true := by simpa using hkI
      cases hq : insB a c u z
      · have HS2 := Go.Lib.hid (show covT a c x y (k + 1) = M by rw [HST.out, hq, if_neg (by simp), List.append_nil])
        rw [hq] at HI2
        clear hq
        go_wp2_with (first
          | go_skip
          | ((with_reducible refine wlAt 29 rfl ?_); refine wpList_loadmid rfl 33 (.tmp 28) rfl g (k * 2) rfl 10 2 (nbF x y) 33 _ Tryd.underlying33 rfl size_spot G.out (by omega) ?_; rw [HR.out])
          | (go_at_call 135; (refine (HI2.out _ P.out).mono ?_); rintro o w3 ⟨rfl, hb⟩; replace P := Go.Lib.hid (row_next hb P.out); replace G := Go.Lib.hid (row_next hb G.out); replace O := Go.Lib.hid (O.out.kept (grown_next (grown_refl _ none) hb) (by cases hv : Value.ownBlock _ <;> simp)); replace hB := Go.Lib.hid (below_next hB.out hb); have hN := Nat.le_trans hN hb.size; clear hb))
        go_roundw
        case rel => exact ⟨k + 1, by omega, by go_num, by rw [HS2.out]; exact O.out, P.out, G.out, hN, hB.out⟩
        case measure => simp [intOf]; omega
      · have hz := HIN.out hq
        have HS2 := Go.Lib.hid (show covT a c x y (k + 1) = M ++ [mk8 u.toNat z.toNat] by rw [HST.out, hq, if_pos rfl])
        have HVM := Go.Lib.hid (vals_mk hz)
        rw [hq] at HI2
        clear hq
        go_wp2_with (first
          | go_skip
          | ((with_reducible refine wlAt 29 rfl ?_); refine wpList_loadmid rfl 33 (.tmp 28) rfl g (k * 2) rfl 10 2 (nbF x y) 33 _ Tryd.underlying33 rfl size_spot G.out (by omega) ?_; rw [HR.out])
          | ((with_reducible refine wlAt 35 rfl ?_); refine wpList_loadmid rfl 33 (.tmp 34) rfl g (k * 2) rfl 10 2 (nbF x y) 33 _ Tryd.underlying33 rfl size_spot G.out (by omega) ?_; rw [HR.out])
          | (go_at_call 135; (refine (HI2.out _ P.out).mono ?_); rintro o w3 ⟨rfl, hb⟩; replace P := Go.Lib.hid (row_next hb P.out); replace G := Go.Lib.hid (row_next hb G.out); replace O := Go.Lib.hid (O.out.kept (grown_next (grown_refl _ none) hb) (by cases hv : Value.ownBlock _ <;> simp)); replace hB := Go.Lib.hid (below_next hB.out hb); have hN := Nat.le_trans hN hb.size; clear hb)
          | (at_builtin; refine wpList_append_own _ rfl (.tmp 31) (.tmp 36) 100 rfl (g + 1) 33 i0 (.agg #[.int .i8 0, .int .i8 0]) 2 2 Tryd.underlying100 hi hz0 hz1 hz2 rfl (by decide) _ _ _ rfl (O.out.alloc _) ⟨w3.heap.size, 0, none⟩ 1 1 [.int .i8 u, .int .i8 z] rfl rfl (World.news_of_block (heap_at _ _ _ rfl)) (by simp [Value.oneCell']) (by simp only [maxLen]; omega) (by omega) (by simp; omega) ?_; intro v' w4 hown' hgrow _))
        have hov := O.out.lt
        have lp := row_lt P.out; have lg := row_lt G.out; have lb := hB.out.size
        have P1 : w4.heap[b]? = some (.cells p.row 61) := (hgrow.block _ (by simp; omega) (fun e => by have := (hov _ e.symm).1; omega)).trans (heap_past _ _ _ _ lp P.out)
        have G1 : w4.heap[g]? = some (.cells (vrow 10 (nbF x y)) 33) := (hgrow.block g (by simp; omega) (fun e => by have := (hov _ e.symm).1; omega)).trans (heap_past _ _ _ _ lg G.out)
        have hN1 : g + 1 ≤ w4.heap.size := Nat.le_trans (by simp; omega) hgrow.size
        have B1 : Below w.heap.size w w4 := (hB.out.alloc hB.out.size _).grown hgrow (by simp; omega) (fun q hq => by have := (hov q hq).1; omega)
        go_roundw
        case rel => exact ⟨k + 1, by omega, by go_num, by rw [HS2.out, List.length_append, vals_app, HVM.out]; exact hown', P1, G1, hN1, B1⟩
        case measure => simp [intOf]; omega
    · obtain rfl : k = 5 := by omega
      replace O := Go.Lib.hid O; replace hB := Go.Lib.hid hB
      go_wp2
      go_ret
      exact ⟨_, rfl, own_mono (by omega) O.out, hB.out⟩
theorem idx_nb (x y : Nat) (k : Nat) (hk : k < 5) (w : World) : (Instr.index 272 (.agg #[.int .i8 (x : Int), .int .i8 ((y : Int) - 1), .int .i8 ((x : Int) - 1), .int .i8 (y : Int), .int .i8 (x : Int), .int .i8 (y : Int), .int .i8 ((x : Int) + 1), .int .i8 (y : Int), .int .i8 (x : Int), .int .i8 ((y : Int) + 1)]) (.int .i64 k)).run Tryd.prog w = .ok (.agg #[.int .i8 (nbX x k), .int .i8 (nbY y k)]) w := by
  have h : ∀ (a0 a1 a2 a3 a4 a5 a6 a7 a8 a9 : Value) (w : World), (Instr.index 272 (.agg #[a0, a1, a2, a3, a4, a5, a6, a7, a8, a9]) (.int .i64 0)).run Tryd.prog w = .ok (.agg #[a0, a1]) w ∧ (Instr.index 272 (.agg #[a0, a1, a2, a3, a4, a5, a6, a7, a8, a9]) (.int .i64 1)).run Tryd.prog w = .ok (.agg #[a2, a3]) w ∧ (Instr.index 272 (.agg #[a0, a1, a2, a3, a4, a5, a6, a7, a8, a9]) (.int .i64 2)).run Tryd.prog w = .ok (.agg #[a4, a5]) w ∧ (Instr.index 272 (.agg #[a0, a1, a2, a3, a4, a5, a6, a7, a8, a9]) (.int .i64 3)).run Tryd.prog w = .ok (.agg #[a6, a7]) w ∧ (Instr.index 272 (.agg #[a0, a1, a2, a3, a4, a5, a6, a7, a8, a9]) (.int .i64 4)).run Tryd.prog w = .ok (.agg #[a8, a9]) w :=
    fun _ _ _ _ _ _ _ _ _ _ _ => ⟨by kernel_rfl, by kernel_rfl, by kernel_rfl, by kernel_rfl, by kernel_rfl⟩
  obtain ⟨h0, h1, h2, h3, h4⟩ := h (.int .i8 (x : Int)) (.int .i8 ((y : Int) - 1)) (.int .i8 ((x : Int) - 1)) (.int .i8 (y : Int)) (.int .i8 (x : Int)) (.int .i8 (y : Int)) (.int .i8 ((x : Int) + 1)) (.int .i8 (y : Int)) (.int .i8 (x : Int)) (.int .i8 ((y : Int) + 1)) w
  have : k = 0 ∨ k = 1 ∨ k = 2 ∨ k = 3 ∨ k = 4 := by omega
  rcases this with rfl | rfl | rfl | rfl | rfl
  · exact h0
  · exact h1
  · exact h2
  · exact h3
  · exact h4
theorem built_nb (x y : Nat) : Tryd.prog.built 272 [(0, .agg #[.int .i8 (x : Int), .int .i8 ((y : Int) - 1)]), (1, .agg #[.int .i8 ((x : Int) - 1), .int .i8 (y : Int)]), (2, .agg #[.int .i8 (x : Int), .int .i8 (y : Int)]), (3, .agg #[.int .i8 ((x : Int) + 1), .int .i8 (y : Int)]), (4, .agg #[.int .i8 (x : Int), .int .i8 ((y : Int) + 1)])] = some #[.int .i8 (x : Int), .int .i8 ((y : Int) - 1), .int .i8 ((x : Int) - 1), .int .i8 (y : Int), .int .i8 (x : Int), .int .i8 (y : Int), .int .i8 ((x : Int) + 1), .int .i8 (y : Int), .int .i8 (x : Int), .int .i8 ((y : Int) + 1)] := by kernel_rfl
theorem quiet_built {P : Program} {ops : Array Oper} {C : World → Prop} {Q : Act → Prop} {rest : List Oper} {o : Oper} {a : Act} (hw : Region.wanted o (yielded ops a.tmps) = true) (ty : TypeId) (parts : List (Nat × Operand)) (ho : o.op = .build ty parts.toArray)
    (l : List (Nat × Value)) (hl : (parts.map fun p => (p.1, a.eval p.2)) = l) (cells : Array Value) (hc : P.built ty l = some cells)
    (h : wpQuiet P ops C Q rest (a.put o.dst (.agg cells))) : wpQuiet P ops C Q (o :: rest) a := by
  have e : ((parts.toArray.map fun (i, x) => (i, a.eval x)).toList) = l := by rw [← hl]; simp
  refine wpQuiet_want' hw fun K hK => ⟨.agg cells, fun w _ => ?_, hK _ h⟩
  have hr : (execOp a.eval o).run P w = .ok (.value (.agg cells)) w := by
    unfold execOp
    simp only [ho, Sem.run_bind, run_build w ty _ cells (by rw [e, hc]), Result.andThen_ok, Sem.run_pure]
  unfold Oper.quietAt
  rw [hr]
  exact ⟨rfl, rfl⟩
theorem make5 (w : World) : (Instr.makeSlice 100 (.int .i64 0) (.int .i64 5)).run Tryd.prog w = .ok (.slice (some ⟨w.heap.size, 0, none⟩) 0 5) (w.alloc (.cells (vrow 10 fun _ => .int .i8 0) 33)) := by kernel_rfl
set_option maxRecDepth 100000 in
set_option maxHeartbeats 4000000 in
theorem icov_any (p : Pic) (a c x y : Nat) (w : World) (ea : p.wide = a) (ec : p.high = c) (ha : a ≤ 8) (hc : c ≤ 8) (hx : x < 8) (hy : y < 8) :
    Calls Tryd.prog 177 #[.agg p.row, .agg (vrow 2 (spAt x y))] w fun e w' => ∃ v, e = .returned v ∧ w'.ownsRow w.heap.size 33 2 v (cov a c x y).length (vals (cov a c x y)) ∧ Below w.heap.size w w' := by
  obtain ⟨i0, hi, hz0, hz1, hz2⟩ := info_parts info_spot
  have zs := zero_spotP
  have mk := make5
  have N0 : Hid (∀ w, Calls Tryd.prog 193 #[.agg #[.int .i8 x, .int .i8 y]] w fun e w' => e = .returned (.agg #[.int .i8 (x : Int), .int .i8 ((y : Int) - 1)]) ∧ Below w.heap.size w w') := Go.Lib.hid fun w => north_any x y w hx hy
  have N1 : Hid (∀ w, Calls Tryd.prog 195 #[.agg #[.int .i8 x, .int .i8 y]] w fun e w' => e = .returned (.agg #[.int .i8 ((x : Int) + 1), .int .i8 (y : Int)]) ∧ Below w.heap.size w w') := Go.Lib.hid fun w => east_any x y w hx hy
  have N2 : Hid (∀ w, Calls Tryd.prog 196 #[.agg #[.int .i8 x, .int .i8 y]] w fun e w' => e = .returned (.agg #[.int .i8 (x : Int), .int .i8 ((y : Int) + 1)]) ∧ Below w.heap.size w w') := Go.Lib.hid fun w => south_any x y w hx hy
  have N3 : Hid (∀ w, Calls Tryd.prog 194 #[.agg #[.int .i8 x, .int .i8 y]] w fun e w' => e = .returned (.agg #[.int .i8 ((x : Int) - 1), .int .i8 (y : Int)]) ∧ Below w.heap.size w w') := Go.Lib.hid fun w => west_any x y w hx hy
  have HI : Hid (∀ (k : Nat) W, Calls Tryd.prog 176 #[.agg p.row, .agg #[.int .i8 (nbX x k), .int .i8 (nbY y k)]] W fun e w' => e = .returned (.bool (insB a c (nbX x k) (nbY y k))) ∧ Below W.heap.size W w') :=
    Go.Lib.hid fun k W => by have h1 := hasP_any p (nbX x k) (nbY y k) W; unfold hasP at h1; rw [ea, ec] at h1; exact h1
  have hB : Hid (Below w.heap.size w ((w.alloc (.cells (vrow 66 p.at) 61)).alloc (.cells (vrow 2 (spAt x y)) 33))) := ((Below.refl w.heap.size w).alloc (by simp <;> omega) _).alloc (by simp <;> omega) _
  have P : Hid (((w.alloc (.cells (vrow 66 p.at) 61)).alloc (.cells (vrow 2 (spAt x y)) 33)).heap[w.heap.size]? = some (.cells (vrow 66 p.at) 61)) := heap_past _ _ _ _ (by simp <;> omega) (heap_at _ _ _ (by simp))
  have R : Hid (((w.alloc (.cells (vrow 66 p.at) 61)).alloc (.cells (vrow 2 (spAt x y)) 33)).heap[w.heap.size + 1]? = some (.cells (vrow 2 (spAt x y)) 33)) := heap_at _ _ _ (by simp)
  clear ea ec
  go_enter Tryd.func177, Tryd.ntmps177
  go_wp2
  have hpn := row_lt P.out; have hrn := row_lt R.out
  obtain ⟨W1, hW1⟩ : ∃ W1, ((w.alloc (.cells p.row 61)).alloc (.cells (vrow 2 (spAt x y)) 33)) = W1 := ⟨_, rfl⟩
  rw [hW1] at hB P R hpn hrn ⊢
  have hs1 : W1.heap.size = w.heap.size + 1 + 1 := by rw [← hW1]; simp
  clear hW1
  have P1 := Go.Lib.hid (heap_past W1 (.cells (vrow 10 fun _ => .int .i8 0) 33) _ _ hpn P.out)
  have R1 := Go.Lib.hid (heap_past W1 (.cells (vrow 10 fun _ => .int .i8 0) 33) _ _ hrn R.out)
  have O1 : Hid ((W1.alloc (.cells (vrow 10 fun _ => .int .i8 0) 33)).ownsRow (w.heap.size + 1 + 1) 33 2 (.slice (some ⟨w.heap.size + 1 + 1, 0, none⟩) 0 5) 0 []) := by
    have h : (W1.alloc (.cells (vrow 10 fun _ => .int .i8 0) 33)).ownsRow W1.heap.size 33 2 (.slice (some ⟨W1.heap.size, 0, none⟩) 0 5) 0 [] := World.ownsRow_made _ _ 5 (Nat.le_refl _) (by decide) (by rw [vrow_size])
    rw [hs1] at h
    exact h
  have B1 := Go.Lib.hid (hB.out.alloc hB.out.size (.cells (vrow 10 fun _ => .int .i8 0) 33))
  clear P R hB mk
  generalize W1.alloc _ = W2 at P1 R1 O1 B1 ⊢
  clear hpn hrn hs1
  refine region_at (by kernel_rfl) (by kernel_rfl) ?_
  intro W hW
  rw [hW] at B1 P1 R1 O1
  clear hW
  have R' := Go.Lib.hid (cls_row' R1.out)
  (refine wpQuiet_loadmid 33 (.tmp 3) rfl (by first | exact want_n rfl | exact want_g _ _ _ rfl rfl rfl) (w.heap.size + 1) _ rfl 2 2 (spAt x y) _ rw_spot size_spot R'.out (by omega) ?_; rw [sp_row]; simp only [Act.put, List.setIfInBounds_toArray, List.set_cons_succ, List.set_cons_zero])
  go_big_quiet_step ((go_at_call 193; exact cls_call _ (fun w hw => N0.out w)))
  (refine wpQuiet_loadmid 33 (.tmp 3) rfl (by first | exact want_n rfl | exact want_g _ _ _ rfl rfl rfl) (w.heap.size + 1) _ rfl 2 2 (spAt x y) _ rw_spot size_spot R'.out (by omega) ?_; rw [sp_row]; simp only [Act.put, List.setIfInBounds_toArray, List.set_cons_succ, List.set_cons_zero])
  go_big_quiet_step ((go_at_call 194; exact cls_call _ (fun w hw => N3.out w)))
  (refine wpQuiet_loadmid 33 (.tmp 3) rfl (by first | exact want_n rfl | exact want_g _ _ _ rfl rfl rfl) (w.heap.size + 1) _ rfl 2 2 (spAt x y) _ rw_spot size_spot R'.out (by omega) ?_; rw [sp_row]; simp only [Act.put, List.setIfInBounds_toArray, List.set_cons_succ, List.set_cons_zero])
  (refine wpQuiet_loadmid 33 (.tmp 3) rfl (by first | exact want_n rfl | exact want_g _ _ _ rfl rfl rfl) (w.heap.size + 1) _ rfl 2 2 (spAt x y) _ rw_spot size_spot R'.out (by omega) ?_; rw [sp_row]; simp only [Act.put, List.setIfInBounds_toArray, List.set_cons_succ, List.set_cons_zero])
  go_big_quiet_step ((go_at_call 195; exact cls_call _ (fun w hw => N1.out w)))
  (refine wpQuiet_loadmid 33 (.tmp 3) rfl (by first | exact want_n rfl | exact want_g _ _ _ rfl rfl rfl) (w.heap.size + 1) _ rfl 2 2 (spAt x y) _ rw_spot size_spot R'.out (by omega) ?_; rw [sp_row]; simp only [Act.put, List.setIfInBounds_toArray, List.set_cons_succ, List.set_cons_zero])
  go_big_quiet_step ((go_at_call 196; exact cls_call _ (fun w hw => N2.out w)))
  refine quiet_built (want_n rfl) 272 [(0, .tmp 10), (1, .tmp 12), (2, .tmp 13), (3, .tmp 15), (4, .tmp 17)] rfl _ rfl _ (built_nb x y) ?_
  simp only [Act.put, List.setIfInBounds_toArray, List.set_cons_succ, List.set_cons_zero]
  repeat (go_big_quiet_step (fail))
  refine wpQuiet_nil ?_
  intro Wn hb
  have P0 := row_next hb P1.out
  have O0 := O1.out.kept (grown_next (grown_refl _ none) hb) (by cases hv : Value.ownBlock _ <;> simp)
  have B0 := below_next B1.out hb
  have hN0 : w.heap.size + 1 + 1 ≤ Wn.heap.size := by have := row_lt R1.out; have := hb.size; omega
  clear hb R' P1 R1 O1 B1 N0 N1 N2 N3
  go_wp2
  go_loopw [5, 19] (fun v iv wr => ∃ k : Nat, k ≤ 5 ∧ iv = .int .i64 k ∧ wr.ownsRow (w.heap.size + 1 + 1) 33 2 v (covT a c x y k).length (vals (covT a c x y k)) ∧ wr.heap[w.heap.size]? = some (.cells (vrow 66 p.at) 61) ∧ w.heap.size + 1 + 1 ≤ wr.heap.size ∧ Below w.heap.size w wr) (fun _ iv _ => 5 - (intOf iv).toNat)
  case atStart => exact ⟨0, by omega, rfl, by simpa [covT, vals] using O0, P0, hN0, B0⟩
  case round =>
    clear O0 P0 B0 hN0
    obtain ⟨k, hk, rfl, O, P, hN2, hB⟩ := hrel
    have hsz := hB.size
    by_cases hlt : k < 5
    · have hst := covT_step a c x y k
      have hle := covT_len a c x y k
      have hrg := nb_rng x y k hx hy
      have hix := fun w => idx_nb x y k hlt w
      have HI2 := Go.Lib.hid fun W => HI.out k W
      have HST := Go.Lib.hid hst
      clear hst HI
      have hin : insB a c (nbX x k) (nbY y k) = true → 0 ≤ nbX x k ∧ nbX x k < 8 ∧ 0 ≤ nbY y k ∧ nbY y k < 8 := fun h => ins_lt h (by omega) (by omega)
      have HIN := Go.Lib.hid hin
      clear hin
      generalize nbX x k = u at *
      generalize nbY y k = z at *
      generalize covT a c x y k = M at *
      replace P := Go.Lib.hid P; replace O := Go.Lib.hid O; replace hB := Go.Lib.hid hB
      have hkI : (k : Int) < 5 := by omega
      have hk0 : (0 : Int) ≤ (k : Int) := by omega
      have hkd : decide ((k : Int) < 5) = true := by simpa using hkI
      cases hq : insB a c u z
      · have HS2 := Go.Lib.hid (show covT a c x y (k + 1) = M by rw [HST.out, hq, if_neg (by simp), List.append_nil])
        rw [hq] at HI2
        clear hq
        go_wp2_with (first
          | go_skip
          | ((with_reducible refine wlOp (.store 33 (.tmp 7) (.tmp 21)) rfl ?_); refine wpList_storeall rfl 33 (.tmp 7) (.tmp 21) rfl _ rfl 2 (spAt 0 0) (spAt u z) rfl 33 size_spot (heap_at _ _ _ rfl) (fun i _ => spAt_oneP _ _ i) ?_; rw [setRow_at _ _ _ _ _ rfl]; have X := Go.Lib.hid (heap_at wr (.cells (vrow 2 (spAt u z)) 33) _ rfl); replace P := Go.Lib.hid (heap_past wr (.cells (vrow 2 (spAt u z)) 33) _ _ (row_lt P.out) P.out); replace O := Go.Lib.hid (O.out.alloc (.cells (vrow 2 (spAt u z)) 33)); replace hB := Go.Lib.hid (hB.out.alloc hB.out.size (.cells (vrow 2 (spAt u z)) 33)))
          | ((with_reducible refine wlAt 22 rfl ?_); refine wpList_ldm 61 (.tmp 2) rfl (by first | exact want_n rfl | exact want_g _ _ _ rfl rfl rfl) w.heap.size _ rfl 66 66 p.at _ rw_pic size_pic P.out (by omega) ?_; rw [pic_row])
          | ((with_reducible refine wlAt 23 rfl ?_); refine wpList_ldm 33 (.tmp 7) rfl (by first | exact want_n rfl | exact want_g _ _ _ rfl rfl rfl) wr.heap.size _ rfl 2 2 (spAt u z) _ rw_spot size_spot X.out (by omega) ?_; rw [sp_row])
          | (go_at_call 176; (refine (HI2.out _).mono ?_); rintro o w3 ⟨rfl, hb⟩; replace P := Go.Lib.hid (row_next hb P.out); replace X := Go.Lib.hid (row_next hb X.out); replace O := Go.Lib.hid (O.out.kept (grown_next (grown_refl _ none) hb) (by cases hv : Value.ownBlock _ <;> simp)); replace hB := Go.Lib.hid (below_next hB.out hb); clear hb))
        go_roundw
        case rel => exact ⟨k + 1, by omega, by go_num, by rw [HS2.out]; exact O.out, P.out, Nat.le_trans hN2 (by have := row_lt X.out; omega), hB.out⟩
        case measure => simp [intOf]; omega
      · have hz := HIN.out hq
        have HS2 := Go.Lib.hid (show covT a c x y (k + 1) = M ++ [mk8 u.toNat z.toNat] by rw [HST.out, hq, if_pos rfl])
        have HVM := Go.Lib.hid (vals_mk hz)
        rw [hq] at HI2
        clear hq
        go_wp2_with (first
          | go_skip
          | ((with_reducible refine wlOp (.store 33 (.tmp 7) (.tmp 21)) rfl ?_); refine wpList_storeall rfl 33 (.tmp 7) (.tmp 21) rfl _ rfl 2 (spAt 0 0) (spAt u z) rfl 33 size_spot (heap_at _ _ _ rfl) (fun i _ => spAt_oneP _ _ i) ?_; rw [setRow_at _ _ _ _ _ rfl]; have X := Go.Lib.hid (heap_at wr (.cells (vrow 2 (spAt u z)) 33) _ rfl); replace P := Go.Lib.hid (heap_past wr (.cells (vrow 2 (spAt u z)) 33) _ _ (row_lt P.out) P.out); replace O := Go.Lib.hid (O.out.alloc (.cells (vrow 2 (spAt u z)) 33)); replace hB := Go.Lib.hid (hB.out.alloc hB.out.size (.cells (vrow 2 (spAt u z)) 33)))
          | ((with_reducible refine wlAt 22 rfl ?_); refine wpList_ldm 61 (.tmp 2) rfl (by first | exact want_n rfl | exact want_g _ _ _ rfl rfl rfl) w.heap.size _ rfl 66 66 p.at _ rw_pic size_pic P.out (by omega) ?_; rw [pic_row])
          | ((with_reducible refine wlAt 23 rfl ?_); refine wpList_ldm 33 (.tmp 7) rfl (by first | exact want_n rfl | exact want_g _ _ _ rfl rfl rfl) wr.heap.size _ rfl 2 2 (spAt u z) _ rw_spot size_spot X.out (by omega) ?_; rw [sp_row])
          | ((with_reducible refine wlAt 26 rfl ?_); refine wpList_ldm 33 (.tmp 7) rfl (by first | exact want_n rfl | exact want_g _ _ _ rfl rfl rfl) wr.heap.size _ rfl 2 2 (spAt u z) _ rw_spot size_spot X.out (by omega) ?_; rw [sp_row])
          | (go_at_call 176; (refine (HI2.out _).mono ?_); rintro o w3 ⟨rfl, hb⟩; replace P := Go.Lib.hid (row_next hb P.out); replace X := Go.Lib.hid (row_next hb X.out); replace O := Go.Lib.hid (O.out.kept (grown_next (grown_refl _ none) hb) (by cases hv : Value.ownBlock _ <;> simp)); replace hB := Go.Lib.hid (below_next hB.out hb); clear hb)
          | (at_builtin; refine wpList_append_own _ rfl (.tmp 25) (.tmp 27) 100 rfl (w.heap.size + 1 + 1) 33 i0 (.agg #[.int .i8 0, .int .i8 0]) 2 2 Tryd.underlying100 hi hz0 hz1 hz2 rfl (by decide) _ _ _ rfl (O.out.alloc _) ⟨w3.heap.size, 0, none⟩ 1 1 [.int .i8 u, .int .i8 z] rfl rfl (World.news_of_block (heap_at _ _ _ rfl)) (by simp [Value.oneCell']) (by simp only [maxLen]; omega) (by omega) (by have := row_lt X.out; have := hB.out.size; simp; omega) ?_; intro v' w4 hown' hgrow _))
        have hov := O.out.lt
        have lp := row_lt P.out; have lx := row_lt X.out; have lb := hB.out.size
        have P1 : w4.heap[w.heap.size]? = some (.cells (vrow 66 p.at) 61) := (hgrow.block _ (by simp; omega) (fun e => by have := (hov _ e.symm).1; omega)).trans (heap_past _ _ _ _ lp P.out)
        have B1 : Below w.heap.size w w4 := (hB.out.alloc hB.out.size _).grown hgrow (by simp; omega) (fun q hq => by have := (hov q hq).1; omega)
        have hN3 : w.heap.size + 1 + 1 ≤ w4.heap.size := Nat.le_trans (by simp; omega) hgrow.size
        go_roundw
        case rel => exact ⟨k + 1, by omega, by go_num, by rw [HS2.out, List.length_append, vals_app, HVM.out]; exact hown', P1, hN3, B1⟩
        case measure => simp [intOf]; omega
    · obtain rfl : k = 5 := by omega
      replace O := Go.Lib.hid O; replace hB := Go.Lib.hid hB
      go_wp2
      go_ret
      exact ⟨_, rfl, own_mono (by omega) O.out, hB.out⟩
end Go.Proofs.YtfgcpiipndhllaaDoor
