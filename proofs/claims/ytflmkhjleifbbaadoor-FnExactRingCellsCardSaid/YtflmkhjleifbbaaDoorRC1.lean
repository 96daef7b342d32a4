import Derived.Test.YtflmkhjleifbbaaDoorChosG
import Derived.Test.YtflmkhjleifbbaaDoorSpots
import Derived.Deep.RegionHeld3
import Derived.Test.YtflmkhjleifbbaaDoorG1
import Derived.Test.YtflmkhjleifbbaaDoorPlain
import Derived.Test.YtflmkhjleifbbaaDoorOkEq
import Derived.Test.YtflmkhjleifbbaaDoorCodeOf
import Derived.Test.YtflmkhjleifbbaaDoorRB2
namespace Go.Proofs.YtflmkhjleifbbaaDoor
open Go.RowKit
set_option maxRecDepth 100000
set_option linter.unusedVariables false
set_option linter.unusedSimpArgs false
def blf (f : Nat → Bool) : Nat → Value := fun i => .bool (f i)
theorem blf_at (f : Nat → Bool) (x y : Nat) : blf f (y * 8 + x) = .bool (f (8 * y + x)) := by unfold blf; rw [Nat.mul_comm y 8]
theorem size_b88 : (Tryd.prog.info? 68).map (·.size) = some 64 := by kernel_rfl
theorem rw_bool8 : (Tryd.prog.underlying 4).map (·.isRow) = some false := by kernel_rfl
theorem size_bool8 : (Tryd.prog.info? 4).map (·.size) = some 1 := by kernel_rfl
theorem blf_one (f : Nat → Bool) (i : Nat) : (blf f i).oneCell' = true := rfl
theorem zero_b88 : ∀ w, (zeroValue 68).run Tryd.prog w = .ok (.agg (vrow 64 (blf fun _ => false))) w := fun _ => by kernel_rfl
theorem built_b88 : Tryd.prog.built 68 [] = some (vrow 64 (blf fun _ => false)) := by kernel_rfl
/-- a number or sign of a place is set -/
def setB (f : Nat → Bool) (i : Nat) (v : Bool) : Nat → Bool := fun j => if j = i then v else f j
theorem blf_set (f : Nat → Bool) (i : Nat) (v : Bool) (n : Nat) : vrow n (over (blf f) i 1 fun _ => .bool v) = vrow n (blf (setB f i v)) := vrow_ext _ _ _ fun j _ => by
  unfold over blf setB
  by_cases h : j = i
  · subst h; rw [if_pos ⟨by omega, by omega⟩, if_pos rfl]
  · rw [if_neg (by omega), if_neg h]
/-- cells that are asked for only where there are cells -/
theorem fl_row (pb : Nat → Nat → Bool) (y : Nat) (hy : y < 8) (a : Nat) : ∀ j, a + j ≤ 8 → (∀ x, a ≤ x → x < 8 → pb x y = false) → fl pb (rowOf (a + j) y) = fl pb (rowOf a y)
  | 0, _, _ => rfl
  | j + 1, h, hp => by
    rw [← Nat.add_assoc, rowOf_succ, fl_app, fl_row pb y hy a j (by omega) hp, mk8_x (by omega) (by omega), if_neg (by rw [hp (a + j) (by omega) (by omega)]; simp)]
    simp
theorem fl_rows (pb : Nat → Nat → Bool) (a : Nat) (ha : a ≤ 8) : ∀ k, k ≤ 8 → (∀ x y, y < k → a ≤ x → x < 8 → pb x y = false) → fl pb (cellsL 8 k) = fl pb (cellsL a k)
  | 0, _, _ => rfl
  | k + 1, hk, hp => by
    have h1 := fl_rows pb a ha k (by omega) (fun x y h => hp x y (by omega))
    have h2 := fl_row pb k (by omega) a (8 - a) (by omega) (fun x => hp x k (by omega))
    rw [show a + (8 - a) = 8 by omega] at h2
    rw [cellsL_succ, cellsL_succ]
    unfold fl at h1 h2 ⊢
    rw [List.filter_append, List.filter_append, h1, h2]
theorem fl_more (pb : Nat → Nat → Bool) (a c : Nat) : ∀ j, (∀ x y, c ≤ y → y < c + j → x < a → pb x y = false) → (ha : a ≤ 8) → c + j ≤ 8 → fl pb (cellsL a (c + j)) = fl pb (cellsL a c)
  | 0, _, _, _ => rfl
  | j + 1, hp, ha, hj => by
    have h1 := fl_more pb a c j (fun x y h1 h2 => hp x y h1 (by omega)) ha (by omega)
    have h2 : fl pb (rowOf a (c + j)) = [] := by
      have h3 := fl_row pb (c + j) (by omega) 0 a (by omega)
      unfold fl
      rw [List.filter_eq_nil_iff]
      intro p hp9
      simp only [rowOf, List.mem_map, List.mem_range] at hp9
      obtain ⟨x, hx, rfl⟩ := hp9
      rw [mk8_x (by omega) (by omega)]
      simp only
      rw [hp x (c + j) (by omega) (by omega) hx]
      simp
    rw [← Nat.add_assoc, cellsL_succ]
    unfold fl at h1 h2 ⊢
    rw [List.filter_append, h1, h2, List.append_nil]
theorem fl_cut (pb : Nat → Nat → Bool) (a c : Nat) (ha : a ≤ 8) (hc : c ≤ 8) (hp : ∀ x y, x < 8 → y < 8 → pb x y = true → x < a ∧ y < c) : fl pb (cellsL 8 8) = fl pb (cellsL a c) := by
  have h1 := fl_rows pb a ha 8 (Nat.le_refl _) (fun x y hy hx hx8 => by
    cases h : pb x y
    · rfl
    · have := hp x y hx8 hy h; omega)
  have h2 := fl_more pb a c (8 - c) (fun x y h1 h2 h3 => by
    cases h : pb x y
    · rfl
    · have := hp x y (by omega) (by omega) h; omega) ha (by omega)
  rw [show c + (8 - c) = 8 by omega] at h2
  rw [h1, h2]
set_option maxHeartbeats 4000000 in
theorem llist_any (f : Nat → Bool) (b : Nat) (w : World) (hs : w.heap[b]? = some (.cells (vrow 64 (blf f)) 68)) : Calls Tryd.prog 33 #[.pointer (some ⟨b, 0, none⟩)] w fun e w' => ∃ v, e = .returned v ∧ Owns w' w.heap.size v (fl (fun x y => f (8 * y + x)) (cellsL 8 8)) ∧ Below w.heap.size w w' := by
  obtain ⟨pb, hpb⟩ : ∃ pb : Nat → Nat → Bool, (fun x y => f (8 * y + x)) = pb := ⟨_, rfl⟩
  rw [hpb]
  obtain ⟨i0, hi, hz0, hz1, hz2⟩ := info_parts info_spot
  have hbs := row_lt hs
  go_enter Tryd.func33, Tryd.ntmps33
  go_wp2
  have P0 : (w.alloc (.cells #[] 42)).heap[b]? = some (.cells (vrow 64 (blf f)) 68) := heap_past _ _ _ _ hbs hs
  have O0 : (w.alloc (.cells #[] 42)).ownsRow w.heap.size 42 2 (.slice (some ⟨w.heap.size, 0, none⟩) 0 0) 0 [] := World.ownsRow_made w #[] 0 (Nat.le_refl _) (by decide) rfl
  have B0 : Below w.heap.size w (w.alloc (.cells #[] 42)) := (Below.refl _ _).alloc (Nat.le_refl _) _
  generalize hW : w.alloc _ = W0 at P0 O0 B0 ⊢
  clear hW hs
  go_loopw [3, 4] (fun v y wr => ∃ k : Nat, k ≤ 8 ∧ y = .int .i8 k ∧ wr.ownsRow w.heap.size 42 2 v (fl pb (cellsL 8 k)).length (vals (fl pb (cellsL 8 k))) ∧ Below w.heap.size w wr ∧ wr.heap[b]? = some (.cells (vrow 64 (blf f)) 68)) (fun _ y _ => 8 - (intOf y).toNat)
  case atStart => exact ⟨0, by omega, rfl, O0, B0, P0⟩
  case round =>
    clear P0 O0 B0
    obtain ⟨k, hk, rfl, hO, hB0, hP⟩ := hrel
    have O := Go.Lib.hid hO; have hB := Go.Lib.hid hB0; have P : Hid (wr.heap[b]? = some (.cells (vrow 64 (blf f)) 68)) := hP
    clear hO hP hB0
    by_cases hlt : k < 8
    · have hdk : decide ((k : Int) < 8) = true := by simp; omega
      go_wp2
      obtain ⟨wo, hwo⟩ : ∃ wo : World, wo = wr := ⟨_, rfl⟩
      rw [← hwo] at O hB P ⊢
      clear hwo wr
      go_loopw [3, 5] (fun v x wr => ∃ j : Nat, j ≤ 8 ∧ x = .int .i8 j ∧ wr.ownsRow w.heap.size 42 2 v (fl pb (cellsL 8 k ++ rowOf j k)).length (vals (fl pb (cellsL 8 k ++ rowOf j k))) ∧ Below w.heap.size w wr ∧ wr.heap[b]? = some (.cells (vrow 64 (blf f)) 68)) (fun _ x _ => 8 - (intOf x).toNat)
      case atStart => exact ⟨0, by omega, rfl, by simpa [rowOf] using O.out, hB.out, P.out⟩
      case round =>
        clear O hB P
        obtain ⟨j, hj, rfl, hO, hB0, hP⟩ := hrel
        have O := Go.Lib.hid hO; have hB := Go.Lib.hid hB0; have P : Hid (wr.heap[b]? = some (.cells (vrow 64 (blf f)) 68)) := hP
        clear hO hP hB0
        by_cases hlj : j < 8
        · have hdj : decide ((j : Int) < 8) = true := by simp; omega
          have hkI : (k : Int) < 8 := by omega
          have hjI : (j : Int) < 8 := by omega
          have hk0 : (0 : Int) ≤ (k : Int) := by omega
          have hj0 : (0 : Int) ≤ (j : Int) := by omega
          have hlen : (fl pb (cellsL 8 k ++ rowOf j k)).length ≤ 64 := by
            refine Nat.le_trans (fl_len _ _) ?_
            rw [List.length_append, cellsL_length, rowOf_length]; omega
          have hsz := hB.out.size
          have hpx : pb (mk8 j k).1.1 (mk8 j k).1.2 = f (8 * k + j) := by rw [← hpb, mk8_x (by omega) (by omega)]
          have BF0 := blf_at f j k
          cases hfb : f (8 * k + j)
          · rw [hfb] at BF0 hpx
            have BF := Go.Lib.hid BF0; have HP1 := Go.Lib.hid hpx
            clear BF0 hpx
            go_wp2_with (first
            | ((with_reducible refine wlAt 21 rfl ?_); refine wpList_load1 rfl 4 (.tmp 20) rfl b (k * 8 + j) rfl 64 (blf f) _ _ Tryd.underlying4 rfl P.out (by omega) ?_; rw [BF.out])
            | go_skip)
            have hs := rowOf_succ j k
            have e0 : fl pb (cellsL 8 k ++ rowOf (j + 1) k) = fl pb (cellsL 8 k ++ rowOf j k) := by
              rw [hs, ← List.append_assoc, fl_app, HP1.out, if_neg (by simp), List.append_nil]
            go_roundw
            case rel => exact ⟨j + 1, by omega, by go_num, by rw [e0]; exact O.out, hB.out, P.out⟩
            case measure => simp [intOf]; omega
          · rw [hfb] at BF0 hpx
            have BF := Go.Lib.hid BF0; have HP1 := Go.Lib.hid hpx
            clear BF0 hpx
            go_wp2_with (first
              | ((with_reducible refine wlAt 21 rfl ?_); refine wpList_load1 rfl 4 (.tmp 20) rfl b (k * 8 + j) rfl 64 (blf f) _ _ Tryd.underlying4 rfl P.out (by omega) ?_; rw [BF.out])
              | (at_builtin; refine wpList_append_own _ rfl (.tmp 22) (.tmp 26) 46 rfl w.heap.size 42 i0 (.agg #[.int .i8 0, .int .i8 0]) 2 2 Tryd.underlying46 hi hz0 hz1 hz2 rfl (by decide) _ _ _ rfl (O.out.alloc _) ⟨wr.heap.size, 0, none⟩ 1 1 [.int .i8 j, .int .i8 k] rfl rfl (World.news_of_block (heap_at _ _ _ rfl)) (by simp [Value.oneCell']) (by simp only [maxLen]; omega) (by omega) (by simp; omega) ?_; intro v' w1 hown' hgrow _))
            have B1 : Below w.heap.size w w1 := (hB.out.alloc hsz _).grown hgrow (by simp; omega) (fun q hq => (O.out.lt q hq).1)
            have P1 : w1.heap[b]? = some (.cells (vrow 64 (blf f)) 68) := (hgrow.block b (by have := row_lt P.out; simp; omega) (fun e => by have := (O.out.lt b e.symm).1; omega)).trans (heap_past _ _ _ _ (row_lt P.out) P.out)
            have hs := rowOf_succ j k
            have e1 : vals (fl pb (cellsL 8 k ++ rowOf (j + 1) k)) = vals (fl pb (cellsL 8 k ++ rowOf j k)) ++ [.int .i8 j, .int .i8 k] := by
              rw [hs, ← List.append_assoc, fl_app, HP1.out, if_pos rfl, vals_app _ [_], vals_one, mk8_x (by omega) (by omega)]
            have e2 : (fl pb (cellsL 8 k ++ rowOf (j + 1) k)).length = (fl pb (cellsL 8 k ++ rowOf j k)).length + 1 := by
              rw [hs, ← List.append_assoc, fl_app, HP1.out, if_pos rfl, List.length_append]; rfl
            go_roundw
            case rel => exact ⟨j + 1, by omega, by go_num, by rw [e1, e2]; exact hown', B1, P1⟩
            case measure => simp [intOf]; omega
        · obtain rfl : j = 8 := by omega
          have hdj : decide (((8 : Nat) : Int) < 8) = false := by simp
          go_wp2
          go_roundw
          case rel => exact ⟨k + 1, by omega, by go_num, by rw [cellsL_succ]; exact O.out, hB.out, P.out⟩
          case measure => simp [intOf]; omega
    · obtain rfl : k = 8 := by omega
      have hdk : decide (((8 : Nat) : Int) < 8) = false := by simp
      go_wp2
      go_ret
      exact ⟨_, rfl, ⟨O.out⟩, hB.out⟩
end Go.Proofs.YtflmkhjleifbbaaDoor
namespace Go.Proofs.YtflmkhjleifbbaaDoor
open Go.RowKit
set_option maxRecDepth 100000
set_option linter.unusedVariables false
set_option linter.unusedSimpArgs false
set_option maxHeartbeats 2000000 in
theorem lrounds_bad (s : Sh) (b : Nat) (k : Int) (w : World) (hs : w.heap[b]? = some (.cells (vrow 266 s.at) 34)) (hf : s.fit) (ho : okI s = false) : Calls Tryd.prog 32 #[.pointer (some ⟨b, 0, none⟩), .int .i64 k] w fun o w' => o = .returned (.int .i64 1) ∧ Below w.heap.size w w' := by
  have HO0 := fun b w hs => ok_any s b w hs hf
  rw [← ok_eq s hf, ho] at HO0
  have HO := Go.Lib.hid HO0
  clear HO0 hf ho
  have hB : Hid (Below w.heap.size w w) := Go.Lib.hid (Below.refl _ _)
  have P := Go.Lib.hid hs
  clear hs
  go_enter Tryd.func32, Tryd.ntmps32
  go_wp2_with (first
    | go_skip
    | (go_at_call 21; (refine (HO.out _ _ P.out).mono ?_; rintro e w1 ⟨rfl, hb⟩; replace P := Go.Lib.hid (row_next hb P.out); replace hB := Go.Lib.hid (below_next hB.out hb); clear hb)))
  go_ret
  exact ⟨rfl, hB.out⟩
set_option maxHeartbeats 2000000 in
theorem lrounds_rng (s : Sh) (b : Nat) (k : Int) (w : World) (hs : w.heap[b]? = some (.cells (vrow 266 s.at) 34)) (hf : s.fit) (ho : okI s = true) (hk : k < 0 ∨ 500 < k) : Calls Tryd.prog 32 #[.pointer (some ⟨b, 0, none⟩), .int .i64 k] w fun o w' => o = .returned (.int .i64 2) ∧ Below w.heap.size w w' := by
  have HO0 := fun b w hs => ok_any s b w hs hf
  rw [← ok_eq s hf, ho] at HO0
  have HO := Go.Lib.hid HO0
  have HI := Go.Lib.hid fun w => in_no k 0 500 hk w
  clear HO0 hf ho hk
  have hB : Hid (Below w.heap.size w w) := Go.Lib.hid (Below.refl _ _)
  have P := Go.Lib.hid hs
  clear hs
  go_enter Tryd.func32, Tryd.ntmps32
  go_wp2_with (first
    | go_skip
    | (go_at_call 21; (refine (HO.out _ _ P.out).mono ?_; rintro e w1 ⟨rfl, hb⟩; replace P := Go.Lib.hid (row_next hb P.out); replace hB := Go.Lib.hid (below_next hB.out hb); clear hb))
    | (go_at_call 37; (refine (HI.out _).mono ?_; rintro e w2 ⟨rfl, hb⟩; replace P := Go.Lib.hid (row_next hb P.out); replace hB := Go.Lib.hid (below_next hB.out hb); clear hb)))
  go_ret
  exact ⟨rfl, hB.out⟩
set_option maxHeartbeats 2000000 in
theorem lrounds_ok (s : Sh) (b : Nat) (k : Int) (w : World) (hs : w.heap[b]? = some (.cells (vrow 266 s.at) 34)) (hf : s.fit) (ho : okI s = true) (hk : 0 ≤ k ∧ k ≤ 500) : Calls Tryd.prog 32 #[.pointer (some ⟨b, 0, none⟩), .int .i64 k] w fun o w' => o = .returned (.int .i64 0) ∧ Below w.heap.size w w' := by
  have HO0 := fun b w hs => ok_any s b w hs hf
  rw [← ok_eq s hf, ho] at HO0
  have HO := Go.Lib.hid HO0
  have HI := Go.Lib.hid fun w => in_yes k 0 500 hk.1 hk.2 w
  clear HO0 hf ho hk
  have hB : Hid (Below w.heap.size w w) := Go.Lib.hid (Below.refl _ _)
  have P := Go.Lib.hid hs
  clear hs
  go_enter Tryd.func32, Tryd.ntmps32
  go_wp2_with (first
    | go_skip
    | (go_at_call 21; (refine (HO.out _ _ P.out).mono ?_; rintro e w1 ⟨rfl, hb⟩; replace P := Go.Lib.hid (row_next hb P.out); replace hB := Go.Lib.hid (below_next hB.out hb); clear hb))
    | (go_at_call 37; (refine (HI.out _).mono ?_; rintro e w2 ⟨rfl, hb⟩; replace P := Go.Lib.hid (row_next hb P.out); replace hB := Go.Lib.hid (below_next hB.out hb); clear hb)))
  go_ret
  exact ⟨rfl, hB.out⟩
end Go.Proofs.YtflmkhjleifbbaaDoor
namespace Go.Proofs.YtflmkhjleifbbaaDoor
open Go.RowKit
set_option maxRecDepth 100000
set_option linter.unusedVariables false
set_option linter.unusedSimpArgs false
set_option maxHeartbeats 2000000 in
theorem ckRounds_bad (s : Sh) (k : Int) (e : ErrE) (w : World) (hE : Errs e w) (ho : okI s = false) (hf : s.fit := by assumption) : Calls Tryd.prog 34 #[.agg s.row, .int .i64 k] w fun o w' => o = .returned (errP e 1) ∧ Below w.heap.size w w' := by
  have HC := Go.Lib.hid fun w hE => checkSheet_bad s ho e w hE
  have hB : Hid (Below w.heap.size w (w.alloc (.cells (vrow 266 s.at) 34))) := ((Below.refl w.heap.size w).alloc (by simp <;> omega) _)
  have P : Hid ((w.alloc (.cells (vrow 266 s.at) 34)).heap[(w.heap.size)]? = some (.cells (vrow 266 s.at) 34)) := heap_at _ _ _ (by simp)
  have E : Hid (Errs e (w.alloc (.cells (vrow 266 s.at) 34))) := hE.alloc _
  go_enter Tryd.func34, Tryd.ntmps34
  go_wp2_with (first
    | go_skip
    | (with_reducible refine wlAt 6 rfl ?_; refine wpList_loadall rfl 34 (.tmp 2) rfl _ rfl 266 s.at 34 _ Tryd.underlying34 rfl size_sheet P.out ?_)
    | (go_at_call 26; (refine (HC.out _ E.out).mono ?_; rintro o w1 ⟨rfl, hb⟩; replace P := Go.Lib.hid (row_next hb P.out); replace hB := Go.Lib.hid (below_next hB.out hb); replace E := Go.Lib.hid (E.out.next hb); clear hb))
    | (with_reducible refine wlAt 17 rfl ?_; refine wpList_ld1 58 _ rfl (by first | exact want_n rfl | exact want_g _ _ _ rfl rfl rfl) 1 0 rfl 1 (fun _ => errP e 2) _ rw_err E.out.v2 (by omega) ?_))
  go_ret
  exact ⟨rfl, hB.out⟩
set_option maxHeartbeats 2000000 in
theorem ckRounds_ok (s : Sh) (k : Int) (e : ErrE) (w : World) (hE : Errs e w) (ho : okI s = true) (hk : 0 ≤ k ∧ k ≤ 500) : Calls Tryd.prog 34 #[.agg s.row, .int .i64 k] w fun o w' => o = .returned (.nilIface) ∧ Below w.heap.size w w' := by
  have HC := Go.Lib.hid fun w hE => checkSheet_ok s ho e w hE
  have h1 : decide (k < 0) = false := by simp; omega
  have h2 : decide (k > 500) = false := by simp; omega
  have h3 : decide (500 < k) = false := by simp; omega
  have hB : Hid (Below w.heap.size w (w.alloc (.cells (vrow 266 s.at) 34))) := ((Below.refl w.heap.size w).alloc (by simp <;> omega) _)
  have P : Hid ((w.alloc (.cells (vrow 266 s.at) 34)).heap[(w.heap.size)]? = some (.cells (vrow 266 s.at) 34)) := heap_at _ _ _ (by simp)
  have E : Hid (Errs e (w.alloc (.cells (vrow 266 s.at) 34))) := hE.alloc _
  go_enter Tryd.func34, Tryd.ntmps34
  go_wp2_with (first
    | go_skip
    | (with_reducible refine wlAt 6 rfl ?_; refine wpList_loadall rfl 34 (.tmp 2) rfl _ rfl 266 s.at 34 _ Tryd.underlying34 rfl size_sheet P.out ?_)
    | (go_at_call 26; (refine (HC.out _ E.out).mono ?_; rintro o w1 ⟨rfl, hb⟩; replace P := Go.Lib.hid (row_next hb P.out); replace hB := Go.Lib.hid (below_next hB.out hb); replace E := Go.Lib.hid (E.out.next hb); clear hb))
    | (with_reducible refine wlAt 17 rfl ?_; refine wpList_ld1 58 _ rfl (by first | exact want_n rfl | exact want_g _ _ _ rfl rfl rfl) 1 0 rfl 1 (fun _ => errP e 2) _ rw_err E.out.v2 (by omega) ?_))
  go_ret
  exact ⟨rfl, hB.out⟩
set_option maxHeartbeats 2000000 in
theorem ckRounds_neg (s : Sh) (k : Int) (e : ErrE) (w : World) (hE : Errs e w) (ho : okI s = true) (hk : k < 0) : Calls Tryd.prog 34 #[.agg s.row, .int .i64 k] w fun o w' => o = .returned (errP e 2) ∧ Below w.heap.size w w' := by
  have HC := Go.Lib.hid fun w hE => checkSheet_ok s ho e w hE
  have h1 : decide (k < 0) = true := by simpa using hk
  have hB : Hid (Below w.heap.size w (w.alloc (.cells (vrow 266 s.at) 34))) := ((Below.refl w.heap.size w).alloc (by simp <;> omega) _)
  have P : Hid ((w.alloc (.cells (vrow 266 s.at) 34)).heap[(w.heap.size)]? = some (.cells (vrow 266 s.at) 34)) := heap_at _ _ _ (by simp)
  have E : Hid (Errs e (w.alloc (.cells (vrow 266 s.at) 34))) := hE.alloc _
  go_enter Tryd.func34, Tryd.ntmps34
  go_wp2_with (first
    | go_skip
    | (with_reducible refine wlAt 6 rfl ?_; refine wpList_loadall rfl 34 (.tmp 2) rfl _ rfl 266 s.at 34 _ Tryd.underlying34 rfl size_sheet P.out ?_)
    | (go_at_call 26; (refine (HC.out _ E.out).mono ?_; rintro o w1 ⟨rfl, hb⟩; replace P := Go.Lib.hid (row_next hb P.out); replace hB := Go.Lib.hid (below_next hB.out hb); replace E := Go.Lib.hid (E.out.next hb); clear hb))
    | (with_reducible refine wlAt 17 rfl ?_; refine wpList_ld1 58 _ rfl (by first | exact want_n rfl | exact want_g _ _ _ rfl rfl rfl) 1 0 rfl 1 (fun _ => errP e 2) _ rw_err E.out.v2 (by omega) ?_))
  go_ret
  exact ⟨rfl, hB.out⟩
set_option maxHeartbeats 2000000 in
theorem ckRounds_big (s : Sh) (k : Int) (e : ErrE) (w : World) (hE : Errs e w) (ho : okI s = true) (hk : 500 < k) : Calls Tryd.prog 34 #[.agg s.row, .int .i64 k] w fun o w' => o = .returned (errP e 2) ∧ Below w.heap.size w w' := by
  have HC := Go.Lib.hid fun w hE => checkSheet_ok s ho e w hE
  have h1 : decide (k < 0) = false := by simp; omega
  have h2 : decide (k > 500) = true := by simpa using hk
  have h3 : decide (500 < k) = true := by simpa using hk
  have hB : Hid (Below w.heap.size w (w.alloc (.cells (vrow 266 s.at) 34))) := ((Below.refl w.heap.size w).alloc (by simp <;> omega) _)
  have P : Hid ((w.alloc (.cells (vrow 266 s.at) 34)).heap[(w.heap.size)]? = some (.cells (vrow 266 s.at) 34)) := heap_at _ _ _ (by simp)
  have E : Hid (Errs e (w.alloc (.cells (vrow 266 s.at) 34))) := hE.alloc _
  go_enter Tryd.func34, Tryd.ntmps34
  go_wp2_with (first
    | go_skip
    | (with_reducible refine wlAt 6 rfl ?_; refine wpList_loadall rfl 34 (.tmp 2) rfl _ rfl 266 s.at 34 _ Tryd.underlying34 rfl size_sheet P.out ?_)
    | (go_at_call 26; (refine (HC.out _ E.out).mono ?_; rintro o w1 ⟨rfl, hb⟩; replace P := Go.Lib.hid (row_next hb P.out); replace hB := Go.Lib.hid (below_next hB.out hb); replace E := Go.Lib.hid (E.out.next hb); clear hb))
    | (with_reducible refine wlAt 17 rfl ?_; refine wpList_ld1 58 _ rfl (by first | exact want_n rfl | exact want_g _ _ _ rfl rfl rfl) 1 0 rfl 1 (fun _ => errP e 2) _ rw_err E.out.v2 (by omega) ?_))
  go_ret
  exact ⟨rfl, hB.out⟩
end Go.Proofs.YtflmkhjleifbbaaDoor
namespace Go.Proofs.YtflmkhjleifbbaaDoor
open Go.RowKit
set_option maxRecDepth 100000
set_option linter.unusedVariables false
set_option linter.unusedSimpArgs false
theorem rw_i64R : (Tryd.prog.underlying 2).map (·.isRow) = some false := by kernel_rfl
set_option maxHeartbeats 2000000 in
theorem rcl_any (r : Nat → Int) (b b2 : Nat) (rd : Int) (x y : Nat) (w : World) (hs2 : w.heap[b2]? = some (.cells (vrow 1 fun _ => .int .i64 rd) 2)) (hs : w.heap[b]? = some (.cells (vrow 64 (rgf r)) 37)) (hr : ∀ i, -1 ≤ r i ∧ r i ≤ 12800) (hx : x < 8) (hy : y < 8) : Calls Tryd.prog 36 #[.agg (vrow 2 (spAt x y)), .pointer (some ⟨b, 0, none⟩), .pointer (some ⟨b2, 0, none⟩)] w fun e w' => e = .returned (.bool (rgF r x y == rd)) ∧ Below w.heap.size w w' := by
  have hwb : -1 ≤ rgF r x y ∧ rgF r x y ≤ 12800 := hr (8 * y + x)
  have hxI : (x : Int) < 8 := by omega
  have hyI : (y : Int) < 8 := by omega
  have RF := Go.Lib.hid (rgf_at r x y)
  generalize rgF r x y = rv at *
  have hB : Hid (Below w.heap.size w (w.alloc (.cells (vrow 2 (spAt x y)) 42))) := Go.Lib.hid ((Below.refl w.heap.size w).alloc (by simp <;> omega) _)
  have R : Hid ((w.alloc (.cells (vrow 2 (spAt x y)) 42)).heap[w.heap.size]? = some (.cells (vrow 2 (spAt x y)) 42)) := heap_at _ _ _ (by simp)
  have P : Hid ((w.alloc (.cells (vrow 2 (spAt x y)) 42)).heap[b]? = some (.cells (vrow 64 (rgf r)) 37)) := heap_past _ _ _ _ (row_lt hs) hs
  have Q : Hid ((w.alloc (.cells (vrow 2 (spAt x y)) 42)).heap[b2]? = some (.cells (vrow 1 fun _ => .int .i64 rd) 2)) := heap_past _ _ _ _ (row_lt hs2) hs2
  go_enter Tryd.func36, Tryd.ntmps36
  go_wp2
  (refine region_at (by kernel_rfl) (by kernel_rfl) ?_; intro W hW; rw [hW] at hB P R Q; clear hW; have P' := Go.Lib.hid (cls_row' P.out); have R' := Go.Lib.hid (cls_row' R.out); have Q' := Go.Lib.hid (cls_row' Q.out))
  (repeat (first
    | go_big_quiet_skip
    | (refine wpQuiet_load1 23 _ rfl (by first | exact want_n rfl | exact want_g _ _ _ rfl rfl rfl) b _ rfl 64 (rgf r) _ rw_i16 P'.out (by omega) ?_; (try simp only [Nat.zero_add, Nat.mul_one]); rw [RF.out]; simp only [Act.put, List.setIfInBounds_toArray, List.set_cons_succ, List.set_cons_zero])
    | (refine wpQuiet_load1 22 _ rfl (by first | exact want_n rfl | exact want_g _ _ _ rfl rfl rfl) w.heap.size _ rfl 2 (spAt x y) _ rw_i8 R'.out (by omega) ?_; (first | rw [spAt_0] | rw [spAt_1]); simp only [Act.put, List.setIfInBounds_toArray, List.set_cons_succ, List.set_cons_zero])
    | (refine wpQuiet_load1 2 _ rfl (by first | exact want_n rfl | exact want_g _ _ _ rfl rfl rfl) b2 _ rfl 1 (fun _ => .int .i64 rd) _ rw_i64R Q'.out (by omega) ?_; simp only [Act.put, List.setIfInBounds_toArray, List.set_cons_succ, List.set_cons_zero])
    | go_big_quiet_step (fail)))
  refine wpQuiet_nil ?_; intro Wn hb; replace hB := Go.Lib.hid (below_next hB.out hb); clear hb P' R' Q'
  go_wp2
  go_ret
  exact ⟨rfl, hB.out⟩
set_option maxHeartbeats 2000000 in
theorem implRC_err (s : Sh) (rd : Int) (k : Nat) (c : Int) (e : ErrE) (w : World) (hE : Errs e w) (hc0 : ∀ w, Errs e w → Calls Tryd.prog 34 #[.agg s.row, .int .i64 rd] w fun o w' => o = .returned (errP e k) ∧ Below w.heap.size w w') (hd0 : ∀ w, Errs e w → Calls Tryd.prog 27 #[errP e k] w fun o w' => o = .returned (.int .i64 c) ∧ Below w.heap.size w w') : Calls Tryd.prog 17 #[.agg s.row, .int .i64 rd] w fun o w' => o = .returned (.tuple #[.slice none 0 0, .int .i64 c]) ∧ Below w.heap.size w w' := by
  have HS := Go.Lib.hid hc0
  have HD := Go.Lib.hid hd0
  clear hc0 hd0
  have zr := zero_rg
  have hB : Hid (Below w.heap.size w ((w.alloc (.cells (vrow 266 s.at) 34)).alloc (.cells (vrow 1 fun _ => .int .i64 rd) 2))) := Go.Lib.hid (((Below.refl w.heap.size w).alloc (by simp <;> omega) _).alloc (by simp <;> omega) _)
  have P : Hid (((w.alloc (.cells (vrow 266 s.at) 34)).alloc (.cells (vrow 1 fun _ => .int .i64 rd) 2)).heap[w.heap.size]? = some (.cells (vrow 266 s.at) 34)) := heap_past _ _ _ _ (by simp <;> omega) (heap_at _ _ _ (by simp))
  have Q : Hid (((w.alloc (.cells (vrow 266 s.at) 34)).alloc (.cells (vrow 1 fun _ => .int .i64 rd) 2)).heap[w.heap.size + 1]? = some (.cells (vrow 1 fun _ => .int .i64 rd) 2)) := heap_at _ _ _ (by simp)
  go_enter Tryd.func17, Tryd.ntmps17
  go_wp2_with (first
    | go_skip
    | ((with_reducible refine wlAt 8 rfl ?_); refine wpList_loadall rfl 34 (.tmp 2) rfl w.heap.size rfl 266 s.at 34 _ Tryd.underlying34 rfl size_sheet P.out ?_)
    | ((with_reducible refine wlAt 9 rfl ?_); refine wpList_load1 rfl 2 (.tmp 3) rfl (w.heap.size + 1) 0 rfl 1 (fun _ => .int .i64 rd) _ _ Tryd.underlying2 rfl Q.out (by omega) ?_)
    | (go_at_call 34; (refine (HS.out _ (hE.next hB.out)).mono ?_); rintro o w1 ⟨rfl, hb⟩; replace P := Go.Lib.hid (row_next hb P.out); replace Q := Go.Lib.hid (row_next hb Q.out); replace hB := Go.Lib.hid (below_next hB.out hb); clear hb)
    | (go_at_call 27; (refine (HD.out _ (hE.next hB.out)).mono ?_); rintro o w1 ⟨rfl, hb⟩; replace hB := Go.Lib.hid (below_next hB.out hb); clear hb))
  go_ret2
  exact ⟨rfl, hB.out⟩
set_option maxHeartbeats 2000000 in
theorem implRC_ok (s : Sh) (rd : Int) (r : Nat → Int) (a c : Nat) (e : ErrE) (w : World) (hE : Errs e w) (ea : s.wide = a) (ec : s.high = c) (ha : a ≤ 8) (hc : c ≤ 8) (hr : ∀ i, -1 ≤ r i ∧ r i ≤ 12800) (hc0 : ∀ w, Errs e w → Calls Tryd.prog 34 #[.agg s.row, .int .i64 rd] w fun o w' => o = .returned .nilIface ∧ Below w.heap.size w w') (HRG0 : ∀ w, Calls Tryd.prog 29 #[.agg s.row] w fun o w' => o = .returned (.agg (vrow 64 (rgf r))) ∧ Below w.heap.size w w') : Calls Tryd.prog 17 #[.agg s.row, .int .i64 rd] w fun o w' => ∃ v, o = .returned (.tuple #[v, .int .i64 0]) ∧ w'.ownsRow w.heap.size 42 2 v (fl (fun x y => rgF r x y == rd) (cellsL a c)).length (vals (fl (fun x y => rgF r x y == rd) (cellsL a c))) ∧ Below w.heap.size w w' := by
  have hmf : ∀ (fn : Fn) (first cap : Array Value) (w : World), (Instr.makeFunc fn first cap).run Tryd.prog w = .ok (.func fn first cap) w := fun _ _ _ _ => rfl
  have HS := Go.Lib.hid hc0
  have HRG := Go.Lib.hid HRG0
  have HCH := Go.Lib.hid fun (W : World) (b b2 : Nat) (h1 : W.heap[b]? = some (.cells (vrow 64 (rgf r)) 37)) (h2 : W.heap[b2]? = some (.cells (vrow 1 fun _ => .int .i64 rd) 2)) => chosen_any s a c (fun x y => rgF r x y == rd) 36 #[.pointer (some ⟨b, 0, none⟩), .pointer (some ⟨b2, 0, none⟩)] W ea ec ha hc (fun _ _ => by kernel_rfl) fun x y W' hx hy hb => rcl_any r b b2 rd x y W' (row_next hb h2) (row_next hb h1) hr (by omega) (by omega)
  clear hc0 HRG0 ea ec
  have zr := zero_rg
  have hB : Hid (Below w.heap.size w ((w.alloc (.cells (vrow 266 s.at) 34)).alloc (.cells (vrow 1 fun _ => .int .i64 rd) 2))) := Go.Lib.hid (((Below.refl w.heap.size w).alloc (by simp <;> omega) _).alloc (by simp <;> omega) _)
  have P : Hid (((w.alloc (.cells (vrow 266 s.at) 34)).alloc (.cells (vrow 1 fun _ => .int .i64 rd) 2)).heap[w.heap.size]? = some (.cells (vrow 266 s.at) 34)) := heap_past _ _ _ _ (by simp <;> omega) (heap_at _ _ _ (by simp))
  have Q : Hid (((w.alloc (.cells (vrow 266 s.at) 34)).alloc (.cells (vrow 1 fun _ => .int .i64 rd) 2)).heap[w.heap.size + 1]? = some (.cells (vrow 1 fun _ => .int .i64 rd) 2)) := heap_at _ _ _ (by simp)
  go_enter Tryd.func17, Tryd.ntmps17
  go_wp2_with (first
    | go_skip
    | ((with_reducible refine wlAt 8 rfl ?_); refine wpList_loadall rfl 34 (.tmp 2) rfl w.heap.size rfl 266 s.at 34 _ Tryd.underlying34 rfl size_sheet P.out ?_)
    | ((with_reducible refine wlAt 9 rfl ?_); refine wpList_load1 rfl 2 (.tmp 3) rfl (w.heap.size + 1) 0 rfl 1 (fun _ => .int .i64 rd) _ _ Tryd.underlying2 rfl Q.out (by omega) ?_)
    | (go_at_call 34; (refine (HS.out _ (hE.next hB.out)).mono ?_); rintro o w1 ⟨rfl, hb⟩; replace P := Go.Lib.hid (row_next hb P.out); replace Q := Go.Lib.hid (row_next hb Q.out); replace hB := Go.Lib.hid (below_next hB.out hb); clear hb)
    | ((with_reducible refine wlAt 15 rfl ?_); refine wpList_loadall rfl 34 (.tmp 2) rfl w.heap.size rfl 266 s.at 34 _ Tryd.underlying34 rfl size_sheet P.out ?_)
    | (go_at_call 29; (refine (HRG.out _).mono ?_); rintro o w2 ⟨rfl, hb⟩; replace P := Go.Lib.hid (row_next hb P.out); replace Q := Go.Lib.hid (row_next hb Q.out); replace hB := Go.Lib.hid (below_next hB.out hb); clear hb)
    | ((with_reducible refine wlOp (.store 37 (.tmp 7) (.tmp 16)) rfl ?_); refine wpList_storeall rfl 37 (.tmp 7) (.tmp 16) rfl _ rfl 64 (rgf fun _ => 0) (rgf r) rfl 37 size_rg (heap_at _ _ _ rfl) (fun i _ => rgf_one _ i) ?_; rw [setRow_at _ _ _ _ _ rfl]; have V := Go.Lib.hid (heap_at w2 (.cells (vrow 64 (rgf r)) 37) _ rfl); have nP := row_lt P.out; replace P := Go.Lib.hid (heap_past _ (.cells (vrow 64 (rgf r)) 37) _ _ nP P.out); have nQ := row_lt Q.out; replace Q := Go.Lib.hid (heap_past _ (.cells (vrow 64 (rgf r)) 37) _ _ nQ Q.out); replace hB := Go.Lib.hid (hB.out.alloc hB.out.size (.cells (vrow 64 (rgf r)) 37)); generalize w2.heap.size = vb at V nP nQ ⊢; generalize w2.alloc _ = w2' at P Q V hB ⊢)
    | ((with_reducible refine wlAt 17 rfl ?_); refine wpList_loadall rfl 34 (.tmp 2) rfl w.heap.size rfl 266 s.at 34 _ Tryd.underlying34 rfl size_sheet P.out ?_)
    | (go_at_call 35; (refine (HCH.out _ _ _ V.out Q.out).mono ?_); rintro o w3 ⟨v, rfl, hO, hb⟩; have hbs := hB.out.size; replace hB := Go.Lib.hid (below_next hB.out hb); clear hb))
  go_ret2
  exact ⟨v, rfl, own_mono hbs hO, hB.out⟩
set_option maxHeartbeats 2000000 in
theorem specRC_bad (s : Sh) (rd : Int) (k : Nat) (px py : Nat → Int) (w : World) (hk : k = 1 ∨ k = 2) (HC0 : ∀ b w, w.heap[b]? = some (.cells (vrow 266 s.at) 34) → Calls Tryd.prog 32 #[.pointer (some ⟨b, 0, none⟩), .int .i64 rd] w fun e w' => e = .returned (.int .i64 k) ∧ Below w.heap.size w w') : Calls Tryd.prog 16 #[.agg s.row, .int .i64 rd] w fun e w' => ∃ v, e = .returned (.tuple #[v, .int .i64 k]) ∧ (∃ ao cp, v = .slice ao 0 cp) ∧ Below w.heap.size w w' := by
  have HC := Go.Lib.hid HC0
  clear HC0
  have hk1 : ((k : Int) == 0) = false := by rcases hk with rfl | rfl <;> rfl
  have hk2 : (!((k : Int) == 0)) = true := by rw [hk1]; rfl
  have hk3 : ((k : Int) != 0) = true := by rcases hk with rfl | rfl <;> rfl
  have hB : Hid (Below w.heap.size w (w.alloc (.cells (vrow 266 s.at) 34))) := Go.Lib.hid ((Below.refl w.heap.size w).alloc (by simp <;> omega) _)
  have P : Hid ((w.alloc (.cells (vrow 266 s.at) 34)).heap[w.heap.size]? = some (.cells (vrow 266 s.at) 34)) := heap_at _ _ _ (by simp)
  have zr := zero_rg
  have zb := zero_b88
  go_enter Tryd.func16, Tryd.ntmps16
  go_wp2_with (first
    | go_skip
    | (go_at_call 32; (refine (HC.out _ _ P.out).mono ?_); rintro o w1 ⟨rfl, hb⟩; replace P := Go.Lib.hid (row_next hb P.out); replace hB := Go.Lib.hid (below_next hB.out hb); clear hb))
  go_ret2
  exact ⟨_, rfl, ⟨_, _, rfl⟩, (hB.out.alloc hB.out.size _)⟩
/-- the signs of the first k places: whether a ring is this one -/
def rck (r : Nat → Int) (rd : Int) (k i : Nat) : Bool := if i < k then r i == rd else false
theorem rck_0 (r : Nat → Int) (rd : Int) : vrow 64 (blf (rck r rd 0)) = vrow 64 (blf fun _ => false) := vrow_ext _ _ _ fun i _ => by unfold blf rck; rw [if_neg (by omega)]
theorem rck_64 (r : Nat → Int) (rd : Int) : vrow 64 (blf (rck r rd 64)) = vrow 64 (blf fun i => r i == rd) := vrow_ext _ _ _ fun i hi => by unfold blf rck; rw [if_pos hi]
theorem rck_s (r : Nat → Int) (rd : Int) (k : Nat) : vrow 64 (blf (setB (rck r rd k) k (r k == rd))) = vrow 64 (blf (rck r rd (k + 1))) := vrow_ext _ _ _ fun i _ => by
  unfold blf rck setB
  dsimp only
  by_cases h : i = k
  · subst h; rw [if_pos rfl, if_pos (by omega)]
  · rw [if_neg h]
    by_cases h2 : i < k
    · rw [if_pos h2, if_pos (by omega)]
    · rw [if_neg h2, if_neg (by omega)]
set_option maxHeartbeats 8000000 in
theorem specRC_ok (s : Sh) (rd : Int) (r : Nat → Int) (N : Int) (w : World) (hr : ∀ i, -1 ≤ r i ∧ r i ≤ 12800) (HC0 : ∀ b w, w.heap[b]? = some (.cells (vrow 266 s.at) 34) → Calls Tryd.prog 32 #[.pointer (some ⟨b, 0, none⟩), .int .i64 rd] w fun e w' => e = .returned (.int .i64 0) ∧ Below w.heap.size w w') (HRL0 : ∀ w, Calls Tryd.prog 22 #[.agg s.row] w fun o w' => o = .returned (.tuple #[.agg (vrow 64 (rgf r)), .int .i64 N]) ∧ Below w.heap.size w w') : Calls Tryd.prog 16 #[.agg s.row, .int .i64 rd] w fun e w' => ∃ v, e = .returned (.tuple #[v, .int .i64 0]) ∧ w'.ownsRow w.heap.size 42 2 v (fl (fun x y => rgF r x y == rd) (cellsL 8 8)).length (vals (fl (fun x y => rgF r x y == rd) (cellsL 8 8))) ∧ Below w.heap.size w w' := by
  have HC := Go.Lib.hid HC0
  have HRL := Go.Lib.hid HRL0
  clear HC0 HRL0
  have HLL := Go.Lib.hid fun b w hs => (llist_any (fun i => r i == rd) b w hs)
  have hB : Hid (Below w.heap.size w (w.alloc (.cells (vrow 266 s.at) 34))) := Go.Lib.hid ((Below.refl w.heap.size w).alloc (by simp <;> omega) _)
  have P : Hid ((w.alloc (.cells (vrow 266 s.at) 34)).heap[w.heap.size]? = some (.cells (vrow 266 s.at) 34)) := heap_at _ _ _ (by simp)
  have zr := zero_rg
  have zb := zero_b88
  go_enter Tryd.func16, Tryd.ntmps16
  go_wp2_with (first
    | go_skip
    | (go_at_call 32; (refine (HC.out _ _ P.out).mono ?_); rintro o w1 ⟨rfl, hb⟩; replace P := Go.Lib.hid (row_next hb P.out); replace hB := Go.Lib.hid (below_next hB.out hb); clear hb)
    | ((with_reducible refine wlAt 19 rfl ?_); refine wpList_loadall rfl 34 (.tmp 2) rfl w.heap.size rfl 266 s.at 34 _ Tryd.underlying34 rfl size_sheet P.out ?_)
    | (go_at_call 22; (refine (HRL.out _).mono ?_); rintro o w2 ⟨rfl, hb⟩; replace P := Go.Lib.hid (row_next hb P.out); replace hB := Go.Lib.hid (below_next hB.out hb); clear hb)
    | ((with_reducible refine wlOp (.store 37 (.tmp 7) (.tmp 21)) rfl ?_); refine wpList_storeall rfl 37 (.tmp 7) (.tmp 21) rfl _ rfl 64 (rgf fun _ => 0) (rgf r) rfl 37 size_rg (heap_at _ _ _ rfl) (fun i _ => rgf_one _ i) ?_; rw [setRow_at _ _ _ _ _ rfl]; have V := Go.Lib.hid (heap_at w2 (.cells (vrow 64 (rgf r)) 37) _ rfl); replace hB := Go.Lib.hid (hB.out.alloc hB.out.size (.cells (vrow 64 (rgf r)) 37)); have hvb := hB.out.size; generalize w2.heap.size = vb at V ⊢; generalize w2.alloc _ = w2' at V hB hvb ⊢; clear P)
    | ((with_reducible refine wlAt 23 rfl ?_); refine wpList_built rfl 68 [] rfl [] (by rfl) _ built_b88 ?_)
    | ((with_reducible refine wlOp (.store 68 (.tmp 9) (.tmp 23)) rfl ?_); refine wpList_storeall rfl 68 (.tmp 9) (.tmp 23) rfl _ rfl 64 (blf fun _ => false) (blf fun _ => false) rfl 68 size_b88 (heap_at _ _ _ rfl) (fun i _ => blf_one _ i) ?_; rw [setRow_at _ _ _ _ _ rfl]; have X := Go.Lib.hid (heap_at w2' (.cells (vrow 64 (blf fun _ => false)) 68) _ rfl); have nV := row_lt V.out; replace V := Go.Lib.hid (heap_past _ (.cells (vrow 64 (blf fun _ => false)) 68) _ _ nV V.out); replace hB := Go.Lib.hid (hB.out.alloc hB.out.size (.cells (vrow 64 (blf fun _ => false)) 68)); generalize w2'.heap.size = ib at X nV hvb ⊢; generalize w2'.alloc _ = w3 at V X hB ⊢))
  have a1 := V.out; have a2 := X.out; have a3 := hB.out
  clear V X hB
  go_loopw [10, 11] (fun yv _ wr => ∃ y : Nat, y ≤ 8 ∧ yv = .int .i64 y ∧ wr.heap[vb]? = some (.cells (vrow 64 (rgf r)) 37) ∧ wr.heap[ib]? = some (.cells (vrow 64 (blf (rck r rd (8 * y)))) 68) ∧ Below w.heap.size w wr) (fun yv _ _ => 8 - (intOf yv).toNat)
  case atStart => exact ⟨0, by omega, rfl, a1, by rw [rck_0]; exact a2, a3⟩
  case round =>
    clear a1 a2 a3
    obtain ⟨y, hy, rfl, V, X, hB⟩ := hrel
    by_cases hlty : y < 8
    · have hyI : (y : Int) < 8 := by omega
      have hy0 : (0 : Int) ≤ (y : Int) := by omega
      have hyd : decide ((y : Int) < 8) = true := by simpa using hyI
      go_wp2
      go_loopw [11] (fun xv wr => ∃ x : Nat, x ≤ 8 ∧ xv = .int .i64 x ∧ wr.heap[vb]? = some (.cells (vrow 64 (rgf r)) 37) ∧ wr.heap[ib]? = some (.cells (vrow 64 (blf (rck r rd (8 * y + x)))) 68) ∧ Below w.heap.size w wr) (fun xv _ => 8 - (intOf xv).toNat)
      case atStart => exact ⟨0, by omega, rfl, V, X, hB⟩
      case round =>
        clear V X hB
        obtain ⟨x, hx, rfl, V, X, hB⟩ := hrel
        by_cases hltx : x < 8
        · have hxI : (x : Int) < 8 := by omega
          have hx0 : (0 : Int) ≤ (x : Int) := by omega
          have hxd : decide ((x : Int) < 8) = true := by simpa using hxI
          have hst := rck_s r rd (8 * y + x)
          have hb := hr (8 * y + x)
          have RF0 := rgf_at r x y
          rw [show rgF r x y = r (8 * y + x) from rfl] at RF0
          generalize r (8 * y + x) = rv at *
          generalize rck r rd (8 * y + x) = f at *
          have HST := Go.Lib.hid hst; have RF := Go.Lib.hid RF0
          clear hst RF0
          replace V := Go.Lib.hid V; replace X := Go.Lib.hid X; replace hB := Go.Lib.hid hB
          go_wp2
          refine wp_region_still_tail 12 (by kernel_rfl) (by kernel_rfl) ?_
          simp only [List.take_succ_cons, List.take_zero, List.drop_succ_cons, List.drop_zero, World.drew_eq]
          repeat (first
            | (refine wpStill_load1 rfl 23 (.tmp 37) rfl vb (y * 8 + x) rfl 64 (rgf r) _ _ Tryd.underlying23 rfl V.out (by omega) ?_; rw [RF.out]; simp only [Act.put, List.setIfInBounds_toArray, List.set_cons_succ, List.set_cons_zero])
            | still_step
            | (refine wpStill_step (fun K hK => ?_); go_simp; simp only [hxI, hyI, hx0, hy0, if_true]; go_simp; refine hK _ ?_; clear hK K))
          refine wpStill_nil ?_
          refine wpList_store1 rfl 4 (.tmp 43) (.tmp 41) rfl ib (y * 8 + x) rfl 64 (blf f) (.bool (rv == rd)) (by first | rfl | (show Value.bool (IntKind.i64.wrap rv == rd) = _; rw [IntWalk.i64_in rv (by omega)])) 68 size_bool8 X.out (by omega) rfl ?_
          rw [blf_set, Nat.mul_comm y 8]
          have V2 := row_set' (w := wr.drew) (g := ib) (by omega) V.out (vrow 64 (blf (setB f (8 * y + x) (rv == rd))))
          have X2 := row_set (w := wr.drew) X.out (vrow 64 (blf (setB f (8 * y + x) (rv == rd))))
          have hB2 := Below_setRow hB.out.drew (show w.heap.size ≤ ib by omega) (vrow 64 (blf (setB f (8 * y + x) (rv == rd))))
          clear V X hB
          generalize World.setRow wr.drew _ _ = w9 at V2 X2 hB2 ⊢
          go_wp2
          go_roundw
          case rel => exact ⟨x + 1, by omega, by go_num, V2, by rw [← Nat.add_assoc, ← HST.out]; exact X2, hB2⟩
          case measure => simp [intOf]; omega
        · obtain rfl : x = 8 := by omega
          have hxd : decide (((8 : Nat) : Int) < 8) = false := by simp
          go_wp2
          go_roundw
          case rel => exact ⟨y + 1, by omega, by go_num, V, by rw [Nat.mul_succ]; exact X, hB⟩
          case measure => simp [intOf]; omega
    · obtain rfl : y = 8 := by omega
      have hyd : decide (((8 : Nat) : Int) < 8) = false := by simp
      rw [rck_64] at X
      replace X := Go.Lib.hid X; replace hB := Go.Lib.hid hB
      go_wp2_with (first
        | go_skip
        | (go_at_call 33; (refine (HLL.out _ _ X.out).mono ?_); rintro o w4 ⟨v, rfl, hO, hb⟩; have hbs := hB.out.size; replace hB := Go.Lib.hid (below_next hB.out hb); clear hb))
      go_ret2
      exact ⟨v, rfl, own_mono hbs hO.own, hB.out⟩
end Go.Proofs.YtflmkhjleifbbaaDoor
