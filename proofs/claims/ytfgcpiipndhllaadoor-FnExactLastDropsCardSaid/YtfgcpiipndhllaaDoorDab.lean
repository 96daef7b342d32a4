import Derived.Test.YtfgcpiipndhllaaDoorToDrop
import Derived.Test.YtfgcpiipndhllaaDoorQT
import Derived.Test.YtfgcpiipndhllaaDoorPO
namespace Go.Proofs.YtfgcpiipndhllaaDoor
open Go.RowKit
set_option maxRecDepth 100000
set_option linter.unusedVariables false
set_option linter.unusedSimpArgs false
attribute [local go_sem] Oper.semAt_some
/-- a picture with one cell's number changed -/
def Pic.put (p : Pic) (k : Nat) (v : Int) : Pic := ⟨p.wide, p.high, fun i => if i = k then v else p.ink i⟩
def dab (p : Pic) (v : Int) (l : List Sp8) : Pic := l.foldl (fun p q => p.put (8 * q.1.2 + q.1.1) v) p
theorem dab_app (p : Pic) (v : Int) (l : List Sp8) (q : Sp8) : dab p v (l ++ [q]) = (dab p v l).put (8 * q.1.2 + q.1.1) v := by unfold dab; rw [List.foldl_append]; rfl
theorem put_row (p : Pic) (k j : Nat) (v : Int) (hj : j = 2 + k) : vrow 66 (over p.at j 1 fun _ => .int .u8 v) = (p.put k v).row := vrow_ext _ _ _ fun i hi => by
  subst hj
  unfold over Pic.at Pic.put
  by_cases h0 : i = 0
  · subst h0; rw [if_neg (by omega), if_pos rfl, if_pos rfl]
  · by_cases h1 : i = 1
    · subst h1; rw [if_neg (by omega), if_neg h0, if_pos rfl, if_neg h0, if_pos rfl]
    · by_cases h : i = 2 + k
      · rw [if_pos (by omega), if_neg h0, if_neg h1]; simp only; rw [if_pos (by omega)]
      · rw [if_neg (by omega), if_neg h0, if_neg h1, if_neg h0, if_neg h1]; simp only; rw [if_neg (by omega)]
set_option maxRecDepth 100000 in
set_option maxHeartbeats 4000000 in
theorem ldrop_any (p : Pic) (b a c x y n : Nat) (w : World) (hs : w.heap[b]? = some (.cells p.row 61)) (hf : p.fit) (ea : p.wide = a) (ec : p.high = c) (ha : a ≤ 8) (hc : c ≤ 8) (hx : x < 8) (hy : y < 8) (hn : n ≤ 2) :
    Calls Tryd.prog 85 #[.pointer (some ⟨b, 0, none⟩), .agg (vrow 3 (drAt x y n))] w fun e w' => e = .returned (.tuple #[]) ∧ w'.heap[b]? = some (.cells (dab p ((n : Int) + 1) (cov a c x y)).row 61) ∧ w.grownBy w' (some b) := by
  have HCV := Go.Lib.hid fun w hs => lcov_any p b a c x y w hs hf ea ec ha hc hx hy
  have hcl : (cov a c x y).length ≤ 5 := covT_len _ _ _ _ _
  generalize cov a c x y = L at *
  have hbl := row_lt hs
  have P : Hid ((w.alloc (.cells (vrow 3 (drAt x y n)) 66)).heap[b]? = some (.cells p.row 61)) := heap_past _ _ _ _ hbl hs
  have R : Hid ((w.alloc (.cells (vrow 3 (drAt x y n)) 66)).heap[w.heap.size]? = some (.cells (vrow 3 (drAt x y n)) 66)) := heap_at _ _ _ (by simp)
  have GB : Hid (w.grownBy (w.alloc (.cells (vrow 3 (drAt x y n)) 66)) (some b)) := Go.Lib.hid (grown_alloc (grown_refl _ _) _)
  clear ea ec hs
  go_enter Tryd.func85, Tryd.ntmps85
  go_wp2_with (first
    | go_skip
    | ((with_reducible refine wlAt 8 rfl ?_); refine wpList_loadmid rfl 33 (.tmp 7) rfl w.heap.size 0 rfl 3 2 (drAt x y n) 66 _ Tryd.underlying33 rfl size_spot R.out (by omega) ?_; rw [dr_spot])
    | (go_at_call 136; (refine (HCV.out _ P.out).mono ?_); rintro o w1 ⟨v, rfl, hO, hb⟩; replace P := Go.Lib.hid (row_next hb P.out); replace R := Go.Lib.hid (row_next hb R.out); replace GB := Go.Lib.hid (grown_next GB.out hb); clear hb))
  obtain ⟨ao, cc, rfl, hr⟩ := own_po hO
  have hbB : b < (w.alloc (.cells (vrow 3 (drAt x y n)) 66)).heap.size := by simp; omega
  have hw1 := row_lt R.out
  generalize (w.alloc (.cells (vrow 3 (drAt x y n)) 66)).heap.size = B at hO hr hbB
  clear hO HCV
  have P0 := P.out; have R0 := R.out; have G0 := GB.out
  go_loopw [5] (fun iv wr => ∃ k : Nat, k ≤ L.length ∧ iv = .int .i64 k ∧ wr.heap[b]? = some (.cells (dab p ((n : Int) + 1) (L.take k)).row 61) ∧ wr.heap[w.heap.size]? = some (.cells (vrow 3 (drAt x y n)) 66) ∧ w1.grownBy wr (some b) ∧ w.grownBy wr (some b)) (fun iv _ => L.length - (intOf iv).toNat)
  case atStart => exact ⟨0, by omega, rfl, by simpa [dab] using P0, R0, grown_refl _ _, G0⟩
  case round =>
    clear P R GB P0 R0 G0
    obtain ⟨k, hk, rfl, P, R, G1, GB⟩ := hrel
    by_cases hlt : k < L.length
    · rcases hr with h0 | ⟨g, N, f, rfl, hg, hN, hrow, hf2⟩
      · omega
      have G : wr.heap[g]? = some (.cells (vrow N f) 33) := (G1.block g (row_lt hrow) (fun e => by cases e; omega)).trans hrow
      have hv := hf2 k hlt
      obtain ⟨⟨⟨i, j⟩, hi8, hj8⟩, hp⟩ : ∃ q, L[k]'hlt = q := ⟨_, rfl⟩
      have hap : dab p ((n : Int) + 1) (L.take (k + 1)) = (dab p ((n : Int) + 1) (L.take k)).put (8 * j + i) ((n : Int) + 1) := by
        rw [List.take_succ_eq_append_getElem hlt, hp, dab_app]
      have fx0 : f (k * 2) = .int .i8 i := by
        have := congrArg (fun q : Array Value => q[0]?) hv
        simpa [vrow, spAt, lx, hlt, hp] using this
      have fx1 : f (k * 2 + 1) = .int .i8 j := by
        have := congrArg (fun q : Array Value => q[1]?) hv
        simpa [vrow, spAt, ly, hlt, hp] using this
      replace hi8 : i < 8 := hi8
      replace hj8 : j < 8 := hj8
      have HAP := Go.Lib.hid hap; have FX0 := Go.Lib.hid fx0; have FX1 := Go.Lib.hid fx1
      clear fx0 fx1 hap hv hf2 hp
      generalize dab p ((n : Int) + 1) (L.take k) = D at *
      replace P := Go.Lib.hid P; replace R := Go.Lib.hid R; replace G := Go.Lib.hid G; replace G1 := Go.Lib.hid G1; replace GB := Go.Lib.hid GB
      have hkI : (k : Int) < (L.length : Int) := by omega
      have hk0 : (0 : Int) ≤ (k : Int) := by omega
      have hkd : decide ((k : Int) < (L.length : Int)) = true := by simpa using hkI
      have hiI : (i : Int) < 8 := by omega
      have hjI : (j : Int) < 8 := by omega
      have hnI : (n : Int) ≤ 2 := by omega
      go_wp2
      refine region_qt 18 (by kernel_rfl) (by kernel_rfl) ?_
      intro W hW
      rw [hW] at P R G G1 GB
      clear hW
      simp only [List.take_succ_cons, List.take_zero, List.drop_succ_cons, List.drop_zero]
      have R' := Go.Lib.hid (cls_row' R.out); have G' := Go.Lib.hid (cls_row' G.out)
      (repeat (first
        | go_big_quiet_skip
        | (refine wpQuiet_load1 22 _ rfl (want_n rfl) g (k * 2 + 1) rfl N f _ rw_i8 G'.out (by omega) ?_; rw [FX1.out]; simp only [Act.put, List.setIfInBounds_toArray, List.set_cons_succ, List.set_cons_zero])
        | (refine wpQuiet_load1 22 _ rfl (want_n rfl) g (k * 2) rfl N f _ rw_i8 G'.out (by omega) ?_; rw [FX0.out]; simp only [Act.put, List.setIfInBounds_toArray, List.set_cons_succ, List.set_cons_zero])
        | (refine wpQuiet_load1 5 _ rfl (want_n rfl) w.heap.size 2 rfl 3 (drAt x y n) _ rw_u8 R'.out (by omega) ?_; (try rw [show drAt (x : Int) (y : Int) (n : Int) 2 = .int .u8 n from rfl]); simp only [Act.put, List.setIfInBounds_toArray, List.set_cons_succ, List.set_cons_zero])
        | go_big_quiet_step (fail)))
      refine wpQuiet_nil ?_
      intro Wn hb
      replace P := Go.Lib.hid (row_next hb P.out); replace R := Go.Lib.hid (row_next hb R.out); replace G1 := Go.Lib.hid (grown_next G1.out hb); replace GB := Go.Lib.hid (grown_next GB.out hb)
      clear hb R' G' G
      refine wpList_store1 rfl 5 (.tmp 33) (.tmp 29) rfl b (2 + j * 8 + i) rfl 66 D.at (.int .u8 ((n : Int) + 1)) (by first | rfl | (show Value.int .u8 (IntKind.u8.wrap ((n : Int) + 1)) = _; rw [IntWalk.u8_in _ (by omega)])) 61 size_u8D P.out (by omega) rfl ?_
      rw [put_row D (8 * j + i) (2 + j * 8 + i) _ (by omega), ← HAP.out]
      have P2 := row_set P.out (dab p ((n : Int) + 1) (L.take (k + 1))).row
      have R2 := row_set' (g := b) (by omega) R.out (dab p ((n : Int) + 1) (L.take (k + 1))).row
      have G12 := grown_set G1.out (dab p ((n : Int) + 1) (L.take (k + 1))).row
      have GB2 := grown_set GB.out (dab p ((n : Int) + 1) (L.take (k + 1))).row
      clear P R G1 GB HAP
      generalize World.setRow Wn _ _ = w9 at P2 R2 G12 GB2 ⊢
      go_wp2
      go_roundw
      case rel => exact ⟨k + 1, by omega, by go_num, P2, R2, G12, GB2⟩
      case measure => simp [intOf]; omega
    · obtain rfl : k = L.length := by omega
      have HT := Go.Lib.hid (show dab p ((n : Int) + 1) (L.take L.length) = dab p ((n : Int) + 1) L by rw [List.take_length])
      rw [HT.out] at P
      have hkd : decide ((L.length : Int) < (L.length : Int)) = false := by simp
      replace P := Go.Lib.hid P; replace GB := Go.Lib.hid GB
      go_wp2
      go_end0
      exact ⟨rfl, P.out, GB.out⟩
end Go.Proofs.YtfgcpiipndhllaaDoor
