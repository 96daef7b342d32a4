import Derived.Test.YthienbbecbakjaaDoorChosG
import Derived.Test.YthienbbecbakjaaDoorSpots
import Derived.Deep.RegionHeld3
import Derived.Test.YthienbbecbakjaaDoorPB1
import Derived.Test.YthienbbecbakjaaDoorIrun
import Derived.Test.YthienbbecbakjaaDoorVF
import Derived.Test.YthienbbecbakjaaDoorCellsN
import Derived.Test.YthienbbecbakjaaDoorBeside
namespace Go.Proofs.YthienbbecbakjaaDoor
open Go.RowKit
set_option maxRecDepth 100000
set_option linter.unusedVariables false
set_option linter.unusedSimpArgs false
def blf (f : Nat → Bool) : Nat → Value := fun i => .bool (f i)
theorem blf_at (f : Nat → Bool) (x y : Nat) : blf f (y * 8 + x) = .bool (f (8 * y + x)) := by unfold blf; rw [Nat.mul_comm y 8]
theorem size_b88 : (Tryd.prog.info? 52).map (·.size) = some 64 := by kernel_rfl
theorem rw_bool8 : (Tryd.prog.underlying 4).map (·.isRow) = some false := by kernel_rfl
theorem size_bool8 : (Tryd.prog.info? 4).map (·.size) = some 1 := by kernel_rfl
theorem blf_one (f : Nat → Bool) (i : Nat) : (blf f i).oneCell' = true := rfl
theorem zero_b88 : ∀ w, (zeroValue 52).run Tryd.prog w = .ok (.agg (vrow 64 (blf fun _ => false))) w := fun _ => by kernel_rfl
theorem built_b88 : Tryd.prog.built 52 [] = some (vrow 64 (blf fun _ => false)) := by kernel_rfl
/-- a number or sign of a place is set -/
def setB (f : Nat → Bool) (i : Nat) (v : Bool) : Nat → Bool := fun j => if j = i then v else f j
theorem blf_set (f : Nat → Bool) (i : Nat) (v : Bool) (n : Nat) : vrow n (over (blf f) i 1 fun _ => .bool v) = vrow n (blf (setB f i v)) := vrow_ext _ _ _ fun j _ => by
  unfold over blf setB
  by_cases h : j = i
  · subst h; rw [if_pos ⟨by omega, by omega⟩, if_pos rfl]
  · rw [if_neg (by omega), if_neg h]
/-- cells that are asked for only where there are cells -/
theorem fl_row (pb : Nat → Nat → Bool) (y : Nat) (hy : y < 8) (a : Nat) : ∀ j, a + j ≤ 8 → (∀ x, a ≤ x → x < 8 → pb x y = false) → fl pb (rowOf (a + j) y) = fl pb (rowOf a y)
  | 0, _, _ => rfl
  | j + 1, h, hp => by
    rw [← Nat.add_assoc, rowOf_succ, fl_app, fl_row pb y hy a j (by omega) hp, mk8_x (by omega) (by omega), if_neg (by rw [hp (a + j) (by omega) (by omega)]; simp)]
    simp
theorem fl_rows (pb : Nat → Nat → Bool) (a : Nat) (ha : a ≤ 8) : ∀ k, k ≤ 8 → (∀ x y, y < k → a ≤ x → x < 8 → pb x y = false) → fl pb (cellsL 8 k) = fl pb (cellsL a k)
  | 0, _, _ => rfl
  | k + 1, hk, hp => by
    have h1 := fl_rows pb a ha k (by omega) (fun x y h => hp x y (by omega))
    have h2 := fl_row pb k (by omega) a (8 - a) (by omega) (fun x => hp x k (by omega))
    rw [show a + (8 - a) = 8 by omega] at h2
    rw [cellsL_succ, cellsL_succ]
    unfold fl at h1 h2 ⊢
    rw [List.filter_append, List.filter_append, h1, h2]
theorem fl_more (pb : Nat → Nat → Bool) (a c : Nat) : ∀ j, (∀ x y, c ≤ y → y < c + j → x < a → pb x y = false) → (ha : a ≤ 8) → c + j ≤ 8 → fl pb (cellsL a (c + j)) = fl pb (cellsL a c)
  | 0, _, _, _ => rfl
  | j + 1, hp, ha, hj => by
    have h1 := fl_more pb a c j (fun x y h1 h2 => hp x y h1 (by omega)) ha (by omega)
    have h2 : fl pb (rowOf a (c + j)) = [] := by
      have h3 := fl_row pb (c + j) (by omega) 0 a (by omega)
      unfold fl
      rw [List.filter_eq_nil_iff]
      intro p hp9
      simp only [rowOf, List.mem_map, List.mem_range] at hp9
      obtain ⟨x, hx, rfl⟩ := hp9
      rw [mk8_x (by omega) (by omega)]
      simp only
      rw [hp x (c + j) (by omega) (by omega) hx]
      simp
    rw [← Nat.add_assoc, cellsL_succ]
    unfold fl at h1 h2 ⊢
    rw [List.filter_append, h1, h2, List.append_nil]
theorem fl_cut (pb : Nat → Nat → Bool) (a c : Nat) (ha : a ≤ 8) (hc : c ≤ 8) (hp : ∀ x y, x < 8 → y < 8 → pb x y = true → x < a ∧ y < c) : fl pb (cellsL 8 8) = fl pb (cellsL a c) := by
  have h1 := fl_rows pb a ha 8 (Nat.le_refl _) (fun x y hy hx hx8 => by
    cases h : pb x y
    · rfl
    · have := hp x y hx8 hy h; omega)
  have h2 := fl_more pb a c (8 - c) (fun x y h1 h2 h3 => by
    cases h : pb x y
    · rfl
    · have := hp x y (by omega) (by omega) h; omega) ha (by omega)
  rw [show c + (8 - c) = 8 by omega] at h2
  rw [h1, h2]
set_option maxHeartbeats 4000000 in
theorem llist_any (f : Nat → Bool) (b : Nat) (w : World) (hs : w.heap[b]? = some (.cells (vrow 64 (blf f)) 52)) : Calls Tryd.prog 27 #[.pointer (some ⟨b, 0, none⟩)] w fun e w' => ∃ v, e = .returned v ∧ Owns w' w.heap.size v (fl (fun x y => f (8 * y + x)) (cellsL 8 8)) ∧ Below w.heap.size w w' := by
  obtain ⟨pb, hpb⟩ : ∃ pb : Nat → Nat → Bool, (fun x y => f (8 * y + x)) = pb := ⟨_, rfl⟩
  rw [hpb]
  obtain ⟨i0, hi, hz0, hz1, hz2⟩ := info_parts info_spot
  have hbs := row_lt hs
  go_enter Tryd.func27, Tryd.ntmps27
  go_wp2
  have P0 : (w.alloc (.cells #[] 61)).heap[b]? = some (.cells (vrow 64 (blf f)) 52) := heap_past _ _ _ _ hbs hs
  have O0 : (w.alloc (.cells #[] 61)).ownsRow w.heap.size 61 2 (.slice (some ⟨w.heap.size, 0, none⟩) 0 0) 0 [] := World.ownsRow_made w #[] 0 (Nat.le_refl _) (by decide) rfl
  have B0 : Below w.heap.size w (w.alloc (.cells #[] 61)) := (Below.refl _ _).alloc (Nat.le_refl _) _
  generalize hW : w.alloc _ = W0 at P0 O0 B0 ⊢
  clear hW hs
  go_loopw [3, 4] (fun v y wr => ∃ k : Nat, k ≤ 8 ∧ y = .int .i8 k ∧ wr.ownsRow w.heap.size 61 2 v (fl pb (cellsL 8 k)).length (vals (fl pb (cellsL 8 k))) ∧ Below w.heap.size w wr ∧ wr.heap[b]? = some (.cells (vrow 64 (blf f)) 52)) (fun _ y _ => 8 - (intOf y).toNat)
  case atStart => exact ⟨0, by omega, rfl, O0, B0, P0⟩
  case round =>
    clear P0 O0 B0
    obtain ⟨k, hk, rfl, hO, hB0, hP⟩ := hrel
    have O := Go.Lib.hid hO; have hB := Go.Lib.hid hB0; have P : Hid (wr.heap[b]? = some (.cells (vrow 64 (blf f)) 52)) := hP
    clear hO hP hB0
    by_cases hlt : k < 8
    · have hdk : decide ((k : Int) < 8) = true := by simp; omega
      go_wp2
      obtain ⟨wo, hwo⟩ : ∃ wo : World, wo = wr := ⟨_, rfl⟩
      rw [← hwo] at O hB P ⊢
      clear hwo wr
      go_loopw [3, 5] (fun v x wr => ∃ j : Nat, j ≤ 8 ∧ x = .int .i8 j ∧ wr.ownsRow w.heap.size 61 2 v (fl pb (cellsL 8 k ++ rowOf j k)).length (vals (fl pb (cellsL 8 k ++ rowOf j k))) ∧ Below w.heap.size w wr ∧ wr.heap[b]? = some (.cells (vrow 64 (blf f)) 52)) (fun _ x _ => 8 - (intOf x).toNat)
      case atStart => exact ⟨0, by omega, rfl, by simpa [rowOf] using O.out, hB.out, P.out⟩
      case round =>
        clear O hB P
        obtain ⟨j, hj, rfl, hO, hB0, hP⟩ := hrel
        have O := Go.Lib.hid hO; have hB := Go.Lib.hid hB0; have P : Hid (wr.heap[b]? = some (.cells (vrow 64 (blf f)) 52)) := hP
        clear hO hP hB0
        by_cases hlj : j < 8
        · have hdj : decide ((j : Int) < 8) = true := by simp; omega
          have hkI : (k : Int) < 8 := by omega
          have hjI : (j : Int) < 8 := by omega
          have hk0 : (0 : Int) ≤ (k : Int) := by omega
          have hj0 : (0 : Int) ≤ (j : Int) := by omega
          have hlen : (fl pb (cellsL 8 k ++ rowOf j k)).length ≤ 64 := by
            refine Nat.le_trans (fl_len _ _) ?_
            rw [List.length_append, cellsL_length, rowOf_length]; omega
          have hsz := hB.out.size
          have hpx : pb (mk8 j k).1.1 (mk8 j k).1.2 = f (8 * k + j) := by rw [← hpb, mk8_x (by omega) (by omega)]
          have BF0 := blf_at f j k
          cases hfb : f (8 * k + j)
          · rw [hfb] at BF0 hpx
            have BF := Go.Lib.hid BF0; have HP1 := Go.Lib.hid hpx
            clear BF0 hpx
            go_wp2_with (first
            | ((with_reducible refine wlAt 21 rfl ?_); refine wpList_load1 rfl 4 (.tmp 20) rfl b (k * 8 + j) rfl 64 (blf f) _ _ Tryd.underlying4 rfl P.out (by omega) ?_; rw [BF.out])
            | go_skip)
            have hs := rowOf_succ j k
            have e0 : fl pb (cellsL 8 k ++ rowOf (j + 1) k) = fl pb (cellsL 8 k ++ rowOf j k) := by
              rw [hs, ← List.append_assoc, fl_app, HP1.out, if_neg (by simp), List.append_nil]
            go_roundw
            case rel => exact ⟨j + 1, by omega, by go_num, by rw [e0]; exact O.out, hB.out, P.out⟩
            case measure => simp [intOf]; omega
          · rw [hfb] at BF0 hpx
            have BF := Go.Lib.hid BF0; have HP1 := Go.Lib.hid hpx
            clear BF0 hpx
            go_wp2_with (first
              | ((with_reducible refine wlAt 21 rfl ?_); refine wpList_load1 rfl 4 (.tmp 20) rfl b (k * 8 + j) rfl 64 (blf f) _ _ Tryd.underlying4 rfl P.out (by omega) ?_; rw [BF.out])
              | (at_builtin; refine wpList_append_own _ rfl (.tmp 22) (.tmp 26) 34 rfl w.heap.size 61 i0 (.agg #[.int .i8 0, .int .i8 0]) 2 2 Tryd.underlying34 hi hz0 hz1 hz2 rfl (by decide) _ _ _ rfl (O.out.alloc _) ⟨wr.heap.size, 0, none⟩ 1 1 [.int .i8 j, .int .i8 k] rfl rfl (World.news_of_block (heap_at _ _ _ rfl)) (by simp [Value.oneCell']) (by simp only [maxLen]; omega) (by omega) (by simp; omega) ?_; intro v' w1 hown' hgrow _))
            have B1 : Below w.heap.size w w1 := (hB.out.alloc hsz _).grown hgrow (by simp; omega) (fun q hq => (O.out.lt q hq).1)
            have P1 : w1.heap[b]? = some (.cells (vrow 64 (blf f)) 52) := (hgrow.block b (by have := row_lt P.out; simp; omega) (fun e => by have := (O.out.lt b e.symm).1; omega)).trans (heap_past _ _ _ _ (row_lt P.out) P.out)
            have hs := rowOf_succ j k
            have e1 : vals (fl pb (cellsL 8 k ++ rowOf (j + 1) k)) = vals (fl pb (cellsL 8 k ++ rowOf j k)) ++ [.int .i8 j, .int .i8 k] := by
              rw [hs, ← List.append_assoc, fl_app, HP1.out, if_pos rfl, vals_app _ [_], vals_one, mk8_x (by omega) (by omega)]
            have e2 : (fl pb (cellsL 8 k ++ rowOf (j + 1) k)).length = (fl pb (cellsL 8 k ++ rowOf j k)).length + 1 := by
              rw [hs, ← List.append_assoc, fl_app, HP1.out, if_pos rfl, List.length_append]; rfl
            go_roundw
            case rel => exact ⟨j + 1, by omega, by go_num, by rw [e1, e2]; exact hown', B1, P1⟩
            case measure => simp [intOf]; omega
        · obtain rfl : j = 8 := by omega
          have hdj : decide (((8 : Nat) : Int) < 8) = false := by simp
          go_wp2
          go_roundw
          case rel => exact ⟨k + 1, by omega, by go_num, by rw [cellsL_succ]; exact O.out, hB.out, P.out⟩
          case measure => simp [intOf]; omega
    · obtain rfl : k = 8 := by omega
      have hdk : decide (((8 : Nat) : Int) < 8) = false := by simp
      go_wp2
      go_ret
      exact ⟨_, rfl, ⟨O.out⟩, hB.out⟩
end Go.Proofs.YthienbbecbakjaaDoor
namespace Go.Proofs.YthienbbecbakjaaDoor
open Go.RowKit
set_option maxRecDepth 100000
set_option linter.unusedVariables false
set_option linter.unusedSimpArgs false
/-- one of the first k has it -/
def anyN (pb : Nat → Bool) : Nat → Bool
  | 0 => false
  | k + 1 => anyN pb k || pb k
theorem anyN_some {pb : Nat → Bool} {i : Nat} (h : pb i = true) : ∀ k, i < k → anyN pb k = true
  | 0, h0 => by omega
  | k + 1, h0 => by
    show (anyN pb k || pb k) = true
    by_cases he : i = k
    · rw [← he, h]; simp
    · rw [anyN_some h k (by omega)]; rfl
theorem anyN_none {pb : Nat → Bool} : ∀ k, (∀ i, i < k → pb i = false) → anyN pb k = false
  | 0, _ => rfl
  | k + 1, h => by
    show (anyN pb k || pb k) = false
    rw [anyN_none k (fun i hi => h i (by omega)), h k (by omega)]; rfl
theorem anyN_ex {pb : Nat → Bool} : ∀ k, anyN pb k = true → ∃ i, i < k ∧ pb i = true
  | 0, h => by cases h
  | k + 1, h => by
    cases hk : anyN pb k
    · have h2 : (anyN pb k || pb k) = true := h
      rw [hk] at h2
      exact ⟨k, by omega, by simpa using h2⟩
    · obtain ⟨i, hi, hp⟩ := anyN_ex k hk
      exact ⟨i, by omega, hp⟩
/-- spots that lie in a row from a place on -/
def SpRow (w : World) (ao : Option Addr) (n : Nat) (px py : Nat → Int) : Prop :=
  0 < n → ∃ g off N f, ao = some ⟨g, off, none⟩ ∧ off + n * 2 ≤ N ∧ w.heap[g]? = some (.cells (vrow N f) 61) ∧ ∀ i, i < n → vrow 2 (fun j => f (off + i * 2 + j)) = vrow 2 (spAt (px i) (py i))
theorem SpRow.next {w w' : World} {ao : Option Addr} {n : Nat} {px py : Nat → Int} (h : SpRow w ao n px py) (hb : Below w.heap.size w w') : SpRow w' ao n px py := fun hn => by
  obtain ⟨g, off, N, f, h1, h2, h3, h4⟩ := h hn
  exact ⟨g, off, N, f, h1, h2, row_next hb h3, h4⟩
set_option maxHeartbeats 4000000 in
theorem ixF_any (px py : Nat → Int) (n cp : Nat) (ao : Option Addr) (pb : Nat → Bool) (F : FuncId) (fs lb : Array Value) (w : World) (hn : n ≤ 1048576) (hr : SpRow w ao n px py)
    (hF : ∀ (xs : Array Value) (w : World), (callFunc F xs).run Tryd.prog w = .ok (.enter F xs) w)
    (hC : ∀ i W, i < n → Below w.heap.size w W → Calls Tryd.prog F (fs.push (.agg (vrow 2 (spAt (px i) (py i)))) ++ lb) W fun e w' => e = .returned (.bool (pb i)) ∧ Below W.heap.size W w') :
    Calls Tryd.prog 75 #[.slice ao n cp, .func (.func F) fs lb] w fun e w' => (∃ r : Int, e = .returned (.int .i64 r) ∧ decide (0 ≤ r) = anyN pb n) ∧ Below w.heap.size w w' := by
  have HC := Go.Lib.hid hC
  have HF := Go.Lib.hid hF
  clear hC hF
  have hB := Go.Lib.hid (Below.refl w.heap.size w)
  go_enter Tryd.func75, Tryd.ntmps75
  go_wp2
  have B0 := hB.out
  clear hB
  go_loopw [8] (fun iv wr => ∃ k : Nat, k ≤ n ∧ iv = .int .i64 k ∧ (∀ i, i < k → pb i = false) ∧ Below w.heap.size w wr) (fun iv _ => n - (intOf iv).toNat)
  case atStart => exact ⟨0, by omega, rfl, fun i hi => by omega, B0⟩
  case round =>
    clear B0
    obtain ⟨k, hk, rfl, hno, hB⟩ := hrel
    by_cases hlt : k < n
    · have hkI : (k : Int) < (n : Int) := by omega
      have hk0 : (0 : Int) ≤ (k : Int) := by omega
      have hkd : decide ((k : Int) < (n : Int)) = true := by simpa using hkI
      obtain ⟨g, off, N, f, rfl, hN, hrow, hfv⟩ := hr (by omega)
      have Gr : Hid (wr.heap[g]? = some (.cells (vrow N f) 61)) := Go.Lib.hid ((hB.block g (row_lt hrow)).trans hrow)
      have HR := Go.Lib.hid (hfv k hlt)
      have HCk := Go.Lib.hid fun W h => HC.out k W hlt h
      have hno2 := hno
      have HNO := Go.Lib.hid hno
      clear hno hfv
      replace hB := Go.Lib.hid hB
      generalize hpk : pb k = bk at *
      have HPK := Go.Lib.hid hpk
      clear hpk
      go_wp2_with (first
        | go_skip
        | ((with_reducible refine wlAt 15 rfl ?_); refine wpList_loadmid rfl 61 (.tmp 14) rfl g (off + k * 2) rfl N 2 f 61 _ Tryd.underlying61 rfl size_spot Gr.out (by omega) ?_; rw [HR.out]))
      rw [HF.out]
      simp only [Oper.upon]
      refine (HCk.out _ hB.out).mono ?_
      rintro e w1 ⟨rfl, hb⟩
      replace hB := Go.Lib.hid (below_next hB.out hb)
      clear hb
      simp only [Act.put, List.setIfInBounds_toArray, List.set_cons_succ, List.set_cons_zero]
      cases bk
      · go_wp2
        go_roundw
        case rel => exact ⟨k + 1, by omega, by go_num, fun i hi9 => by
          by_cases he : i = k
          · rw [he]; exact HPK.out
          · exact HNO.out i (by omega), hB.out⟩
        case measure => simp [intOf]; omega
      · go_wp2
        go_ret
        exact ⟨⟨(k : Int), rfl, by rw [anyN_some HPK.out n hlt]; simp⟩, hB.out⟩
    · obtain rfl : k = n := by omega
      have hkd : decide ((k : Int) < (k : Int)) = false := by simp
      go_wp2
      go_ret
      exact ⟨⟨-1, rfl, by rw [anyN_none k hno]; rfl⟩, hB⟩
set_option maxHeartbeats 2000000 in
theorem coF_any (px py : Nat → Int) (n cp : Nat) (ao : Option Addr) (pb : Nat → Bool) (F : FuncId) (fs lb : Array Value) (w : World) (hn : n ≤ 1048576) (hr : SpRow w ao n px py)
    (hF : ∀ (xs : Array Value) (w : World), (callFunc F xs).run Tryd.prog w = .ok (.enter F xs) w)
    (hC : ∀ i W, i < n → Below w.heap.size w W → Calls Tryd.prog F (fs.push (.agg (vrow 2 (spAt (px i) (py i)))) ++ lb) W fun e w' => e = .returned (.bool (pb i)) ∧ Below W.heap.size W w') :
    Calls Tryd.prog 60 #[.slice ao n cp, .func (.func F) fs lb] w fun e w' => e = .returned (.bool (anyN pb n)) ∧ Below w.heap.size w w' := by
  have HI := Go.Lib.hid (ixF_any px py n cp ao pb F fs lb w hn hr hF hC)
  clear hC hr hF
  generalize anyN pb n = an at *
  go_enter Tryd.func60, Tryd.ntmps60
  go_wp2_with (first
    | go_skip
    | (go_at_call 75; (refine HI.out.mono ?_); rintro o w1 ⟨⟨r, rfl, hrr⟩, hb⟩))
  go_ret
  exact ⟨by rw [← hrr]; rfl, hb⟩
end Go.Proofs.YthienbbecbakjaaDoor
namespace Go.Proofs.YthienbbecbakjaaDoor
open Go.RowKit
set_option maxRecDepth 100000
set_option linter.unusedVariables false
set_option linter.unusedSimpArgs false
theorem own_row_ofB {W : World} {base g cap size n : Nat} {t : TypeId} {xs : List Value} (h : W.ownsRow base t size (.slice (some ⟨g, 0, none⟩) n cap) n xs) : ∃ f : Nat → Value, W.heap[g]? = some (.cells (vrow (cap * size) f) t) ∧ n ≤ cap ∧ ∀ (j : Nat) (u : Value), j < n * size → xs[j]? = some u → f j = u := by
  rcases h.2 with ⟨hv, _⟩ | ⟨g', cap', cur, hv, _, hg, hcap, _, hsz, ht⟩
  · cases hv
  · simp only [Value.slice.injEq, Option.some.injEq, Addr.mk.injEq] at hv
    obtain ⟨⟨rfl, _⟩, _, rfl⟩ := hv
    refine ⟨fun i => cur.getD i undef, ?_, hcap, ?_⟩
    · rw [hg]
      congr 2
      apply Array.ext_getElem?
      intro i
      by_cases hi : i < cap * size
      · rw [vrow_get _ _ _ hi, Array.getD_eq_getD_getElem?, Array.getElem?_eq_getElem (by omega)]; rfl
      · rw [vrow_none _ _ _ hi, Array.getElem?_eq_none (by omega)]
    · intro j u hj hu
      show cur.getD j undef = u
      rw [← ht, List.getElem?_take, if_pos hj] at hu
      rw [Array.getD_eq_getD_getElem?]
      simp only [Array.getElem?_toList] at hu
      rw [hu]; rfl
/-- a slice of n spots, that lie below L -/
def SlP (w : World) (v : Value) (n : Nat) (px py : Nat → Int) (L : Nat) : Prop := ∃ ao c, v = .slice ao n c ∧ (0 < n → ∃ D N f, ao = some ⟨D, 0, none⟩ ∧ D < L ∧ n * 2 ≤ N ∧ w.heap[D]? = some (.cells (vrow N f) 61) ∧ ∀ k, k < n → vrow 2 (fun j => f (k * 2 + j)) = vrow 2 (spAt (px k) (py k)))
theorem SlP.next {w w' : World} {v : Value} {n : Nat} {px py : Nat → Int} {L : Nat} (h : SlP w v n px py L) (hb : Below w.heap.size w w') : SlP w' v n px py L := by
  obtain ⟨ao, c, rfl, hr⟩ := h
  refine ⟨ao, c, rfl, fun hn => ?_⟩
  obtain ⟨D, N, f, h1, h2, h3, h4, h5⟩ := hr hn
  exact ⟨D, N, f, h1, h2, h3, row_next hb h4, h5⟩
theorem SlP.set {w : World} {v : Value} {n : Nat} {px py : Nat → Int} {L g : Nat} (h : SlP w v n px py L) (hg : L ≤ g) (cs : Array Value) : SlP (w.setRow g cs) v n px py L := by
  obtain ⟨ao, c, rfl, hr⟩ := h
  refine ⟨ao, c, rfl, fun hn => ?_⟩
  obtain ⟨D, N, f, h1, h2, h3, h4, h5⟩ := hr hn
  exact ⟨D, N, f, h1, h2, h3, row_set' (show D ≠ g by omega) h4 cs, h5⟩
theorem SlP.of {w : World} {D n c N : Nat} {f : Nat → Value} {px py : Nat → Int} (hN : n * 2 ≤ N) (h : w.heap[D]? = some (.cells (vrow N f) 61)) (hf : ∀ k, k < n → vrow 2 (fun j => f (k * 2 + j)) = vrow 2 (spAt (px k) (py k))) : SlP w (.slice (some ⟨D, 0, none⟩) n c) n px py (D + 1) :=
  ⟨_, _, rfl, fun _ => ⟨D, N, f, rfl, by omega, hN, h, hf⟩⟩
set_option maxHeartbeats 2000000 in
theorem eqSpot0_any (a1 a2 : Option Addr) (c1 c2 : Nat) (w : World) : Calls Tryd.prog 13 #[.slice a1 0 c1, .slice a2 0 c2] w fun e w' => e = .returned (.bool true) ∧ Below w.heap.size w w' := by
  go_enter Tryd.func13, Tryd.ntmps13
  go_wp2
  go_loopw [5] (fun iv wr => iv = .int .i64 0 ∧ Below w.heap.size w wr) (fun _ _ => 0)
  case atStart => exact ⟨rfl, Below.refl _ _⟩
  case round =>
    obtain ⟨rfl, hB⟩ := hrel
    go_wp2
    go_ret
    exact ⟨rfl, hB⟩
theorem eqP_any (v1 v2 : Value) (n L1 L2 : Nat) (px py : Nat → Int) (w : World) (hn : n ≤ 1048576) (h1 : SlP w v1 n px py L1) (h2 : SlP w v2 n px py L2) : Calls Tryd.prog 13 #[v1, v2] w fun e w' => e = .returned (.bool true) ∧ Below w.heap.size w w' := by
  obtain ⟨a1, c1, rfl, g1⟩ := h1
  obtain ⟨a2, c2, rfl, g2⟩ := h2
  rcases Nat.eq_zero_or_pos n with rfl | hp
  · exact eqSpot0_any a1 a2 c1 c2 w
  · obtain ⟨D1, N1, f1, rfl, _, hN1, hr1, hf1⟩ := g1 hp
    obtain ⟨D2, N2, f2, rfl, _, hN2, hr2, hf2⟩ := g2 hp
    exact eqSpotN_any D1 D2 n c1 c2 N1 N2 f1 f2 px py w hn hN1 hN2 hf1 hf2 hr1 hr2
end Go.Proofs.YthienbbecbakjaaDoor
namespace Go.Proofs.YthienbbecbakjaaDoor
open Go.RowKit
set_option maxRecDepth 100000
set_option linter.unusedVariables false
set_option linter.unusedSimpArgs false
def lx (l : List Sp8) (k : Nat) : Int := if h : k < l.length then ((l[k]'h).1.1 : Int) else 0
def ly (l : List Sp8) (k : Nat) : Int := if h : k < l.length then ((l[k]'h).1.2 : Int) else 0
theorem SlP.now {w : World} {v : Value} {n : Nat} {px py : Nat → Int} {L : Nat} (h : SlP w v n px py L) : SlP w v n px py w.heap.size := by
  obtain ⟨ao, c, rfl, hr⟩ := h
  refine ⟨ao, c, rfl, fun hn => ?_⟩
  obtain ⟨D, N, f, h1, h2, h3, h4, h5⟩ := hr hn
  exact ⟨D, N, f, h1, row_lt h4, h3, h4, h5⟩
theorem SlP.below {w w' : World} {v : Value} {n : Nat} {px py : Nat → Int} {L : Nat} (h : SlP w v n px py L) (hb : Below L w w') : SlP w' v n px py L := by
  obtain ⟨ao, c, rfl, hr⟩ := h
  refine ⟨ao, c, rfl, fun hn => ?_⟩
  obtain ⟨D, N, f, h1, h2, h3, h4, h5⟩ := hr hn
  exact ⟨D, N, f, h1, h2, h3, row_below hb h2 h4, h5⟩
/-- the program's slice: of its own from B on -/
def PO (w : World) (v : Value) (n : Nat) (px py : Nat → Int) (B : Nat) : Prop := ∃ ao c, v = .slice ao n c ∧ (n = 0 ∨ ∃ g N f, ao = some ⟨g, 0, none⟩ ∧ B ≤ g ∧ n * 2 ≤ N ∧ w.heap[g]? = some (.cells (vrow N f) 61) ∧ ∀ k, k < n → vrow 2 (fun j => f (k * 2 + j)) = vrow 2 (spAt (px k) (py k)))
theorem PO.next {w w' : World} {v : Value} {n : Nat} {px py : Nat → Int} {B : Nat} (h : PO w v n px py B) (hb : Below w.heap.size w w') : PO w' v n px py B := by
  obtain ⟨ao, c, rfl, hr⟩ := h
  refine ⟨ao, c, rfl, hr.imp id ?_⟩
  rintro ⟨g, N, f, h1, h2, h3, h4, h5⟩
  exact ⟨g, N, f, h1, h2, h3, row_next hb h4, h5⟩
theorem PO.slp {w : World} {v : Value} {n : Nat} {px py : Nat → Int} {B : Nat} (h : PO w v n px py B) : SlP w v n px py w.heap.size := by
  obtain ⟨ao, c, rfl, hr⟩ := h
  refine ⟨ao, c, rfl, fun hn => ?_⟩
  rcases hr with h0 | ⟨g, N, f, h1, h2, h3, h4, h5⟩
  · omega
  · exact ⟨g, N, f, h1, row_lt h4, h3, h4, h5⟩
theorem own_po {W : World} {base : Nat} {v : Value} {l : List Sp8} (h : W.ownsRow base 61 2 v l.length (vals l)) : PO W v l.length (lx l) (ly l) base := by
  rcases h.2 with ⟨rfl, h0⟩ | ⟨g, cap, cur, rfl, hg, _, _, _, _, _⟩
  · refine ⟨none, 0, ?_, .inl h0⟩
    rw [h0]
  · obtain ⟨f, h1, h2, h3⟩ := own_row_ofB h
    refine ⟨_, _, rfl, .inr ⟨g, cap * 2, f, rfl, hg, by omega, h1, fun k hk => ?_⟩⟩
    obtain ⟨g0, g1⟩ := vals_get l k hk
    refine vrow_ext _ _ _ fun i hi => ?_
    have : i = 0 ∨ i = 1 := by omega
    rcases this with rfl | rfl
    · show f (k * 2) = _
      rw [h3 (k * 2) _ (by omega) (by rw [Nat.mul_comm]; exact g0)]
      unfold lx spAt
      rw [dif_pos hk]; rfl
    · show f (k * 2 + 1) = _
      rw [h3 (k * 2 + 1) _ (by omega) (by rw [Nat.mul_comm]; exact g1)]
      unfold ly spAt
      rw [dif_pos hk]; rfl
def MO (w : World) (v : Value) (n : Nat) : Prop := ∃ ao c, v = .slice ao n c ∧ (n = 0 ∨ ∃ g N f, ao = some ⟨g, 0, none⟩ ∧ n * 2 ≤ N ∧ w.heap[g]? = some (.cells (vrow N (mkC f 1 (n * 2))) 61))
theorem MO.next {w w' : World} {v : Value} {n : Nat} (h : MO w v n) (hb : Below w.heap.size w w') : MO w' v n := by
  obtain ⟨ao, c, rfl, hr⟩ := h
  refine ⟨ao, c, rfl, hr.imp id ?_⟩
  rintro ⟨g, N, f, h1, h3, h4⟩
  exact ⟨g, N, f, h1, h3, row_next hb h4⟩
set_option maxHeartbeats 2000000 in
theorem mark0_any (ao : Option Addr) (c : Nat) (k : Int) (w : World) : Calls Tryd.prog 14 #[.slice ao 0 c, .int .i64 k] w fun e w' => e = .returned (.int .i64 k) ∧ Below w.heap.size w w' := by
  go_enter Tryd.func14, Tryd.ntmps14
  go_wp2
  go_loopw [1, 5] (fun kv iv wr => kv = .int .i64 k ∧ iv = .int .i64 0 ∧ Below w.heap.size w wr) (fun _ _ _ => 0)
  case atStart => exact ⟨rfl, rfl, Below.refl _ _⟩
  case round =>
    obtain ⟨rfl, rfl, hB⟩ := hrel
    go_wp2
    go_ret
    exact ⟨rfl, hB⟩
set_option maxHeartbeats 2000000 in
theorem held0_any (ao : Option Addr) (c : Nat) (k : Int) (w : World) : Calls Tryd.prog 15 #[.slice ao 0 c, .int .i64 k] w fun e w' => e = .returned (.int .i64 k) ∧ Below w.heap.size w w' := by
  go_enter Tryd.func15, Tryd.ntmps15
  go_wp2
  go_loopw [1, 5] (fun kv iv wr => kv = .int .i64 k ∧ iv = .int .i64 0 ∧ Below w.heap.size w wr) (fun _ _ _ => 0)
  case atStart => exact ⟨rfl, rfl, Below.refl _ _⟩
  case round =>
    obtain ⟨rfl, rfl, hB⟩ := hrel
    go_wp2
    go_ret
    exact ⟨rfl, hB⟩
theorem markPO (v : Value) (n : Nat) (px py : Nat → Int) (B : Nat) (w : World) (hn : n ≤ 1048576) (hB : B ≤ w.heap.size) (h : PO w v n px py B) : Calls Tryd.prog 14 #[v, .int .i64 1] w fun e w' => e = .returned (.int .i64 (1 + (n : Int) * 2)) ∧ MO w' v n ∧ Below B w w' := by
  obtain ⟨ao, c, rfl, hr⟩ := h
  rcases hr with rfl | ⟨g, N, f, rfl, hg, hN, hr, _⟩
  · refine (mark0_any ao c 1 w).mono ?_
    rintro e w' ⟨rfl, hb⟩
    exact ⟨by simp, ⟨ao, c, rfl, .inl rfl⟩, hb.mono hB⟩
  · refine (markS_any g n c N f 1 w hn hN ⟨by omega, by omega⟩ hr).mono ?_
    rintro e w' ⟨rfl, rfl⟩
    exact ⟨rfl, ⟨_, _, rfl, .inr ⟨g, N, f, rfl, hN, row_set hr _⟩⟩, Below_setRow (Below.refl _ _) hg _⟩
theorem heldMO (v : Value) (n : Nat) (w : World) (hn : n ≤ 1048576) (h : MO w v n) : Calls Tryd.prog 15 #[v, .int .i64 1] w fun e w' => e = .returned (.int .i64 (1 + (n : Int) * 2)) ∧ Below w.heap.size w w' := by
  obtain ⟨ao, c, rfl, hr⟩ := h
  rcases hr with rfl | ⟨g, N, f, rfl, hN, hr⟩
  · refine (held0_any ao c 1 w).mono ?_
    rintro e w' ⟨rfl, hb⟩
    exact ⟨by simp, hb⟩
  · exact heldS_any g n c N f 1 w hn hN ⟨by omega, by omega⟩ hr
end Go.Proofs.YthienbbecbakjaaDoor
namespace Go.Proofs.YthienbbecbakjaaDoor
open Go.RowKit
set_option maxRecDepth 100000
set_option linter.unusedVariables false
set_option linter.unusedSimpArgs false
theorem own_row_geW {W : World} {base g cap size n : Nat} {t : TypeId} {xs : List Value} (h : W.ownsRow base t size (.slice (some ⟨g, 0, none⟩) n cap) n xs) : base ≤ g := by
  rcases h.2 with ⟨hv, _⟩ | ⟨g', cap', cur, hv, hb, _⟩
  · cases hv
  · simp only [Value.slice.injEq, Option.some.injEq, Addr.mk.injEq] at hv
    obtain ⟨⟨rfl, _⟩, _, rfl⟩ := hv
    exact hb
theorem keep_atW {A B : World} {row : Option Nat} {b : Nat} {x : Obj} (g : A.grownBy B row) (hx : A.heap[b]? = some x) (hr : ∀ r, row = some r → b ≠ r) : B.heap[b]? = some x :=
  (g.block b (row_lt hx) (fun e => absurd rfl (hr b e.symm))).trans hx
theorem GRow.keepW {W W' : World} {gp gl : Nat} {s : Sh} {l : List Sp8} {f f2 : Nat → Value} (h : GRow W gp gl s l f f2) {row : Option Nat} (g : W.grownBy W' row) (h1 : ∀ r, row = some r → gp ≠ r) (h2 : ∀ r, row = some r → gl ≠ r) : GRow W' gp gl s l f f2 :=
  ⟨keep_atW g h.pl h1, keep_atW g h.li h2, h.hl, h.at_, h.nb⟩
theorem GRow.nextW {W W' : World} {gp gl : Nat} {s : Sh} {l : List Sp8} {f f2 : Nat → Value} (h : GRow W gp gl s l f f2) (hb : Below W.heap.size W W') : GRow W' gp gl s l f f2 := h.keepW (grown_next (grown_refl _ none) hb) (fun r e => by cases e) (fun r e => by cases e)
theorem GRow.allocW {W : World} {gp gl : Nat} {s : Sh} {l : List Sp8} {f f2 : Nat → Value} (h : GRow W gp gl s l f f2) (x : Obj) : GRow (W.alloc x) gp gl s l f f2 := h.keepW (grown_alloc (grown_refl _ none) x) (fun r e => by cases e) (fun r e => by cases e)
theorem GRow.setW {W : World} {gp gl g : Nat} {s : Sh} {l : List Sp8} {f f2 : Nat → Value} (h : GRow W gp gl s l f f2) (h1 : gp ≠ g) (h2 : gl ≠ g) (cs : Array Value) : GRow (W.setRow g cs) gp gl s l f f2 := h.keepW (grown_set (grown_refl W (some g)) cs) (fun r e => by cases e; exact h1) (fun r e => by cases e; exact h2)
theorem GRow.drewW {W : World} {gp gl : Nat} {s : Sh} {l : List Sp8} {f f2 : Nat → Value} (h : GRow W gp gl s l f f2) : GRow W.drew gp gl s l f f2 := h.keepW (grown_drew (grown_refl W none)) (fun r e => by cases e) (fun r e => by cases e)
/-- the place of a cell, as it lies in a ground -/
def plV (s : Sh) (gl : Nat) (l : List Sp8) (k : Nat) (p : Sp8) : Nat → Value := plf p.1.1 p.1.2 (besV gl (nbAll s (l.take k)).length ((nbAll s (l.take k)).length + (nbs s p.1.1 p.1.2 4).length))
theorem GRow.plW {W : World} {gp gl : Nat} {s : Sh} {l : List Sp8} {f f2 : Nat → Value} (h : GRow W gp gl s l f f2) (k : Nat) (hk : k < l.length) : vrow 3 (fun q => f (k * 3 + q)) = vrow 3 (plV s gl l k (l[k]'hk)) := h.at_ k hk
theorem plV_one (s : Sh) (gl : Nat) (l : List Sp8) (k : Nat) (p : Sp8) (i : Nat) : (plV s gl l k p i).oneCell' = true := plf_one _ _ _ rfl i
theorem plV_0 (s : Sh) (gl : Nat) (l : List Sp8) (k : Nat) (p : Sp8) : plV s gl l k p 0 = .int .i8 p.1.1 := rfl
theorem plV_1 (s : Sh) (gl : Nat) (l : List Sp8) (k : Nat) (p : Sp8) : plV s gl l k p 1 = .int .i8 p.1.2 := rfl
/-- the neighbours of a cell, as they lie in a ground -/
theorem GRow.besW {W : World} {gp gl : Nat} {s : Sh} {l : List Sp8} {f f2 : Nat → Value} (h : GRow W gp gl s l f f2) (k : Nat) (hk : k < l.length) : ∃ ao, plV s gl l k (l[k]'hk) 2 = .slice ao (nbs s (l[k]'hk).1.1 (l[k]'hk).1.2 4).length (nbs s (l[k]'hk).1.1 (l[k]'hk).1.2 4).length ∧ SpRow W ao (nbs s (l[k]'hk).1.1 (l[k]'hk).1.2 4).length (lx (nbs s (l[k]'hk).1.1 (l[k]'hk).1.2 4)) (ly (nbs s (l[k]'hk).1.1 (l[k]'hk).1.2 4)) := by
  obtain ⟨ad, h1, h2⟩ := bes_slice gl (nbAll s (l.take k)).length (nbs s (l[k]'hk).1.1 (l[k]'hk).1.2 4).length
  refine ⟨some ⟨gl, ad, none⟩, h1, fun hn => ?_⟩
  have hke := List.getElem?_eq_getElem hk
  have hnb := h.nb k _ hke
  generalize (l[k]'hk) = p at *
  generalize hM : nbs s p.1.1 p.1.2 4 = M at *
  refine ⟨gl, ad, 256 * 2, f2, rfl, ?_, h.li, fun i hi => ?_⟩
  · have := (hnb (M.length - 1) _ (List.getElem?_eq_getElem (by omega))).1
    rw [h2 hn]; omega
  · have := (hnb i _ (List.getElem?_eq_getElem hi)).2
    rw [h2 hn]
    have e : (nbAll s (l.take k)).length * 2 + i * 2 = ((nbAll s (l.take k)).length + i) * 2 := by omega
    rw [e, this]
    unfold lx ly
    rw [dif_pos hi, dif_pos hi]
    rfl
end Go.Proofs.YthienbbecbakjaaDoor
namespace Go.Proofs.YthienbbecbakjaaDoor
open Go.RowKit
set_option maxRecDepth 100000
set_option linter.unusedVariables false
set_option linter.unusedSimpArgs false
/-- a place's water is set -/
def Sh.sw (s : Sh) (j : Nat) (v : Int) : Sh := ⟨s.wide, s.high, fun i => if i = j then v else s.wet i, s.dye, s.wax⟩
theorem Sh.sw_at (s : Sh) (o j : Nat) (ho : o = 2 + j) (hj : j < 64) (v : Int) : vrow 266 (over s.at o 1 fun _ => .int .i16 v) = vrow 266 (s.sw j v).at := vrow_ext _ _ _ fun i hi => by
  subst ho
  unfold over Sh.at Sh.sw
  dsimp only
  by_cases h : i = 2 + j
  · subst h
    rw [if_pos (by omega), if_neg (by omega), if_neg (by omega), if_pos (by omega), if_pos (by omega)]
  · rw [if_neg (by omega)]
    by_cases h0 : i = 0
    · rw [if_pos h0, if_pos h0]
    · rw [if_neg h0, if_neg h0]
      by_cases h1 : i = 1
      · rw [if_pos h1, if_pos h1]
      · rw [if_neg h1, if_neg h1]
        by_cases h2 : i < 66
        · rw [if_pos h2, if_pos h2, if_neg (by omega)]
        · rw [if_neg h2, if_neg h2]
theorem sw_wet (s : Sh) (j : Nat) (v : Int) (i : Nat) : (s.sw j v).wet i = if i = j then v else s.wet i := rfl
theorem sw_same (s : Sh) (j : Nat) (v : Int) (h : v = s.wet j) : s.sw j v = s := by
  obtain ⟨a, b, wet, d, x⟩ := s
  show Sh.mk a b (fun i => if i = j then v else wet i) d x = Sh.mk a b wet d x
  congr 1
  funext i
  split
  · rename_i e; rw [e]; exact h
  · rfl
/-- a place of the sheet -/
def pix (p : Sp8) : Nat := 8 * p.1.2 + p.1.1
theorem pix_lt (p : Sp8) : pix p < 64 := by have := p.2.1; have := p.2.2; unfold pix; omega
/-- how many of some cells have no water -/
def dryN (T : Sh) : List Sp8 → Int
  | [] => 0
  | q :: l => (if T.wet (pix q) = 0 then 1 else 0) + dryN T l
theorem dryN_snoc (T : Sh) (q : Sp8) : ∀ l, dryN T (l ++ [q]) = dryN T l + (if T.wet (pix q) = 0 then 1 else 0)
  | [] => by simp [dryN]
  | p :: l => by
    show _ + dryN T (l ++ [q]) = _ + dryN T l + _
    rw [dryN_snoc T q l]; omega
theorem dryN_bd (T : Sh) : ∀ l, 0 ≤ dryN T l ∧ dryN T l ≤ (l.length : Int)
  | [] => by simp [dryN]
  | p :: l => by
    obtain ⟨h1, h2⟩ := dryN_bd T l
    simp only [dryN, List.length_cons]
    split <;> omega
/-- what a cell loses -/
def loss (s T : Sh) (p : Sp8) : Int := min (1 + dryN T (nbs s p.1.1 p.1.2 4)) (T.wet (pix p))
/-- a cell dries: B as it was at the beginning of the round -/
def cellDry (s B : Sh) (T : Sh × Int) (p : Sp8) : Sh × Int := (T.1.sw (pix p) (T.1.wet (pix p) - loss s B p), T.2 + loss s B p)
theorem loss_bd {s B : Sh} {p : Sp8} (h : 0 ≤ B.wet (pix p)) : 0 ≤ loss s B p ∧ loss s B p ≤ B.wet (pix p) ∧ loss s B p ≤ 5 := by
  obtain ⟨h1, h2⟩ := dryN_bd B (nbs s p.1.1 p.1.2 4)
  have := nbs_len s p.1.1 p.1.2 4
  unfold loss
  generalize dryN B (nbs s p.1.1 p.1.2 4) = n at *
  generalize B.wet (pix p) = m at *
  rw [Int.min_def]; split <;> omega
theorem loss_none {s B : Sh} {p : Sp8} (h : B.wet (pix p) = 0) : loss s B p = 0 := by
  have := loss_bd (s := s) (B := B) (p := p) (by omega)
  omega
theorem cellDry_none {s B : Sh} {T : Sh × Int} {p : Sp8} (h : loss s B p = 0) : cellDry s B T p = T := by
  unfold cellDry
  rw [h, sw_same _ _ _ (by omega)]
  simp
/-- what a round of drying over some cells makes -/
structure Dried (s B : Sh) (n : Nat) (T : Sh × Int) : Prop where
  wax : T.1.wax = B.wax
  wide : T.1.wide = B.wide
  high : T.1.high = B.high
  dye : T.1.dye = B.dye
  low : ∀ i, i < 64 → 0 ≤ T.1.wet i
  up : ∀ i, T.1.wet i ≤ B.wet i
  far : ∀ i, 64 ≤ i → T.1.wet i = B.wet i
  sum : 0 ≤ T.2 ∧ T.2 ≤ 5 * (n : Int)
theorem dry_fold (s B : Sh) (hB : ∀ i, i < 64 → 0 ≤ B.wet i) : ∀ (l : List Sp8) (n : Nat) (T : Sh × Int), (l.map pix).Nodup → Dried s B n T → (∀ p ∈ l, T.1.wet (pix p) = B.wet (pix p)) →
    Dried s B (n + l.length) (l.foldl (cellDry s B) T) ∧ ∀ i, i ∉ l.map pix → (l.foldl (cellDry s B) T).1.wet i = T.1.wet i
  | [], n, T, _, h, _ => ⟨h, fun _ _ => rfl⟩
  | p :: l, n, T, hn, h, hl => by
    obtain ⟨hn1, hn2⟩ := List.nodup_cons.1 hn
    have hp := hl p List.mem_cons_self
    have hpl := pix_lt p
    obtain ⟨b1, b2, b3⟩ := loss_bd (s := s) (B := B) (p := p) (hB _ hpl)
    have hw : ∀ i, (cellDry s B T p).1.wet i = if i = pix p then T.1.wet (pix p) - loss s B p else T.1.wet i := fun _ => rfl
    have hs : (cellDry s B T p).2 = T.2 + loss s B p := rfl
    have hD : Dried s B (n + 1) (cellDry s B T p) := by
      refine ⟨h.wax, h.wide, h.high, h.dye, fun i hi => ?_, fun i => ?_, fun i hi => ?_, ?_⟩
      · rw [hw]; split
        · omega
        · exact h.low i hi
      · rw [hw]; split
        · rename_i e; rw [e]; omega
        · exact h.up i
      · rw [hw, if_neg (by omega)]; exact h.far i hi
      · have := h.sum
        rw [hs]; omega
    obtain ⟨r1, r2⟩ := dry_fold s B hB l (n + 1) (cellDry s B T p) hn2 hD (fun q hq => by
      rw [hw, if_neg (fun e : pix q = pix p => hn1 (by rw [← e]; exact List.mem_map_of_mem hq))]
      exact hl q (List.mem_cons_of_mem _ hq))
    rw [List.foldl_cons, List.length_cons, show n + (l.length + 1) = n + 1 + l.length by omega]
    refine ⟨r1, fun i hi => ?_⟩
    rw [r2 i (fun h' => hi (by simp only [List.map_cons, List.mem_cons]; exact .inr h')), hw, if_neg (fun e => hi (by simp only [List.map_cons, List.mem_cons]; exact .inl e))]
theorem Dried.start (s B : Sh) (hB : ∀ i, i < 64 → 0 ≤ B.wet i) : Dried s B 0 (B, 0) := ⟨rfl, rfl, rfl, rfl, hB, fun _ => Int.le_refl _, fun _ _ => rfl, by simp, by simp⟩
/-- a valid sheet with less water is one -/
theorem valid_lessW {S T : Sh} {i j : Nat} (e1 : S.wax = T.wax) (e2 : S.wide = T.wide) (e3 : S.high = T.high) (e4 : S.dye = T.dye) (hd : 0 ≤ S.wet (8 * j + i) ∧ S.wet (8 * j + i) ≤ T.wet (8 * j + i)) (h : validB T i j = true) : validB S i j = true := by
  have hh : hasB S i j = hasB T i j := by unfold hasB; rw [e2, e3]
  have hx : waxB S i j = waxB T i j := by unfold waxB; rw [e1]
  unfold validB bareB dOk wOk at h ⊢
  rw [hh, hx, e4]
  clear hh hx
  generalize hasB T i j = p at h ⊢
  generalize waxB T i j = q at h ⊢
  cases p <;> cases q <;> simp at h ⊢ <;> omega
theorem Gd.dried {s B : Sh} {n : Nat} {T : Sh × Int} (h : Gd s B) (d : Dried s B n T) : Gd s T.1 := by
  refine ⟨d.wax.trans h.wax, d.wide.trans h.wide, d.high.trans h.high, ?_, fun i => by rw [d.dye]; exact h.ink i, ?_⟩
  · obtain ⟨hdm, hV⟩ := (okI_iff B).1 h.ok
    exact (okI_iff _).2 ⟨by rw [d.wide, d.high]; exact hdm, fun i j hi hj => valid_lessW d.wax d.wide d.high d.dye ⟨d.low _ (by omega), d.up _⟩ (hV i j hi hj)⟩
  · refine ⟨by rw [d.wide]; exact h.fit.wide, by rw [d.high]; exact h.fit.high, fun i hi => ?_, by rw [d.dye]; exact h.fit.dye, by rw [d.wax]; exact h.fit.wax⟩
    have := h.fit.wet i hi
    have := d.low i hi
    have := d.up i
    omega
theorem wet_pos {s T : Sh} (h : Gd s T) (i : Nat) (hi : i < 64) : 0 ≤ T.wet i ∧ T.wet i ≤ 200 := by
  obtain ⟨h1, _⟩ := ok_bounds T h.ok (i % 8) (i / 8) (by omega) (by omega)
  rw [show 8 * (i / 8) + i % 8 = i by omega] at h1
  exact h1
theorem cells_pix {l : List Sp8} (h : (l.map (·.1)).Nodup) : (l.map pix).Nodup := by
  have e : l.map pix = (l.map (·.1)).map fun q : Nat × Nat => 8 * q.2 + q.1 := by rw [List.map_map]; rfl
  rw [e]
  have hb : ∀ q ∈ l.map (·.1), q.1 < 8 ∧ q.2 < 8 := fun q hq => by
    obtain ⟨p, _, rfl⟩ := List.mem_map.1 hq
    exact p.2
  generalize l.map (·.1) = m at h hb ⊢
  induction m with
  | nil => simp
  | cons q m ih =>
    obtain ⟨h1, h2⟩ := List.nodup_cons.1 h
    refine List.nodup_cons.2 ⟨fun hq => ?_, ih h2 (fun q hq => hb q (List.mem_cons_of_mem _ hq))⟩
    obtain ⟨r, hr, er⟩ := List.mem_map.1 hq
    have b1 := hb q List.mem_cons_self
    have b2 := hb r (List.mem_cons_of_mem _ hr)
    have : r = q := Prod.ext (by simp only at er; omega) (by simp only at er; omega)
    exact h1 (this ▸ hr)
theorem cellsL_pix (a c : Nat) (ha : a ≤ 8) (hc : c ≤ 8) : ((cellsL a c).map pix).Nodup := cells_pix (by rw [cellsL_val a c ha c hc]; exact pairsL_nodup a c)
theorem dry_take {s B : Sh} (h : Gd s B) {l : List Sp8} (hn : (l.map pix).Nodup) (k : Nat) : Dried s B (l.take k).length ((l.take k).foldl (cellDry s B) (B, 0)) ∧ ∀ (hk : k < l.length), ((l.take k).foldl (cellDry s B) (B, 0)).1.wet (pix l[k]) = B.wet (pix l[k]) := by
  have hB : ∀ i, i < 64 → 0 ≤ B.wet i := fun i hi => (wet_pos h i hi).1
  have hn' : ((l.take k).map pix).Nodup := by rw [List.map_take]; exact (List.take_sublist _ _).nodup hn
  obtain ⟨h1, h2⟩ := dry_fold s B hB (l.take k) 0 (B, 0) hn' (Dried.start s B hB) (fun _ _ => rfl)
  rw [Nat.zero_add] at h1
  refine ⟨h1, fun hk => h2 _ fun hm => ?_⟩
  have hd : l.map pix = (l.take k).map pix ++ (l.drop k).map pix := by rw [← List.map_append, List.take_append_drop]
  rw [hd, List.nodup_append] at hn
  refine hn.2.2 _ hm (pix l[k]) ?_ rfl
  exact List.mem_map_of_mem (by rw [List.drop_eq_getElem_cons hk]; exact List.mem_cons_self)
theorem dry_all {s B : Sh} (h : Gd s B) {l : List Sp8} (hn : (l.map pix).Nodup) : Dried s B l.length (l.foldl (cellDry s B) (B, 0)) := by
  have := (dry_take h hn l.length).1
  rwa [List.take_length] at this
/-- waxed cells lose nothing -/
theorem loss_wax {s B : Sh} (h : Gd s B) {p : Sp8} (hb : hasB s p.1.1 p.1.2 = true) (hx : waxB s p.1.1 p.1.2 = true) : loss s B p = 0 := by
  refine loss_none ?_
  obtain ⟨_, hV⟩ := (okI_iff B).1 h.ok
  have := hV p.1.1 p.1.2 p.2.1 p.2.2
  unfold validB at this
  rw [has_like h, wax_like h, hb, hx] at this
  simp [bareB] at this
  exact this.1
theorem dry_filter {s B : Sh} (h : Gd s B) : ∀ (l : List Sp8), (∀ p ∈ l, hasB s p.1.1 p.1.2 = true) → ∀ T : Sh × Int, (l.filter fun p => !waxB s p.1.1 p.1.2).foldl (cellDry s B) T = l.foldl (cellDry s B) T
  | [], _, _ => rfl
  | p :: l, hl, T => by
    rw [List.filter_cons, List.foldl_cons]
    cases hx : waxB s p.1.1 p.1.2
    · rw [Bool.not_false, if_pos rfl, List.foldl_cons]
      exact dry_filter h l (fun q hq => hl q (List.mem_cons_of_mem _ hq)) _
    · rw [Bool.not_true, if_neg (by simp), cellDry_none (loss_wax h (hl p List.mem_cons_self) hx)]
      exact dry_filter h l (fun q hq => hl q (List.mem_cons_of_mem _ hq)) _
theorem dry_mono {s B : Sh} (hB : ∀ i, i < 64 → 0 ≤ B.wet i) : ∀ (l : List Sp8) (T : Sh × Int), T.2 ≤ (l.foldl (cellDry s B) T).2 ∧ ((l.foldl (cellDry s B) T).2 = T.2 → l.foldl (cellDry s B) T = T)
  | [], T => ⟨Int.le_refl _, fun _ => rfl⟩
  | p :: l, T => by
    obtain ⟨h1, h2⟩ := dry_mono (s := s) hB l (cellDry s B T p)
    have hb := (loss_bd (s := s) (B := B) (p := p) (hB _ (pix_lt p))).1
    have hs : (cellDry s B T p).2 = T.2 + loss s B p := rfl
    rw [List.foldl_cons]
    refine ⟨by omega, fun h => ?_⟩
    have h0 : loss s B p = 0 := by omega
    rw [cellDry_none h0] at h h2 ⊢
    exact h2 h
theorem dry_zero {s B : Sh} (h : Gd s B) {l : List Sp8} (hz : (l.foldl (cellDry s B) (B, 0)).2 = 0) : (l.foldl (cellDry s B) (B, 0)).1 = B := by
  rw [(dry_mono (fun i hi => (wet_pos h i hi).1) l (B, 0)).2 hz]
theorem cellDry_like {s B : Sh} (h : Gd s B) : cellDry s B = cellDry B B := by
  have e : ∀ p, loss s B p = loss B B p := fun p => by unfold loss; rw [nbs_like h]
  funext T p
  unfold cellDry
  rw [e]
end Go.Proofs.YthienbbecbakjaaDoor
namespace Go.Proofs.YthienbbecbakjaaDoor
open Go.RowKit
set_option maxRecDepth 100000
set_option linter.unusedVariables false
set_option linter.unusedSimpArgs false
theorem nbs_iff {s : Sh} (hok : okI s = true) {x y : Nat} (q : Sp8) : ∀ k, q ∈ nbs s x y k ↔ (freeB s q.1.1 q.1.2 = true ∧ ∃ j, j < k ∧ (q.1.1 : Int) = nextX x j ∧ (q.1.2 : Int) = nextY y j)
  | 0 => by simp [nbs]
  | k + 1 => by
    rw [show nbs s x y (k + 1) = nbs s x y k ++ (if freeB s (nextX x k) (nextY y k) then [mk8 (nextX x k).toNat (nextY y k).toNat] else []) from rfl, List.mem_append, nbs_iff hok q k]
    constructor
    · rintro (⟨h1, j, hj, h2⟩ | h)
      · exact ⟨h1, j, by omega, h2⟩
      · cases hf : freeB s (nextX x k) (nextY y k)
        · rw [hf] at h; simp at h
        · rw [hf, if_pos rfl] at h
          obtain ⟨m1, m2⟩ := mk_next hok hf
          rw [List.mem_singleton.1 h]
          exact ⟨by rw [m1, m2]; exact hf, k, by omega, m1, m2⟩
    · rintro ⟨h1, j, hj, h2, h3⟩
      by_cases hjk : j = k
      · subst hjk
        right
        rw [h2, h3] at h1
        obtain ⟨m1, m2⟩ := mk_next hok h1
        rw [if_pos h1, List.mem_singleton]
        exact Subtype.ext (Prod.ext (by omega) (by omega))
      · exact .inl ⟨h1, j, by omega, h2, h3⟩
theorem nbs_symm {s : Sh} (hok : okI s = true) (p q : Sp8) (hp : freeB s p.1.1 p.1.2 = true) (h : q ∈ nbs s p.1.1 p.1.2 4) : p ∈ nbs s q.1.1 q.1.2 4 := by
  obtain ⟨_, j, hj, h2, h3⟩ := (nbs_iff hok q 4).1 h
  refine (nbs_iff hok p 4).2 ⟨hp, ?_⟩
  have : j = 0 ∨ j = 1 ∨ j = 2 ∨ j = 3 := by omega
  rcases this with rfl | rfl | rfl | rfl <;> simp only [nextX, nextY] at h2 h3
  · exact ⟨2, by omega, by simp only [nextX]; omega, by simp only [nextY]; omega⟩
  · exact ⟨3, by omega, by simp only [nextX]; omega, by simp only [nextY]; omega⟩
  · exact ⟨0, by omega, by simp only [nextX]; omega, by simp only [nextY]; omega⟩
  · exact ⟨1, by omega, by simp only [nextX]; omega, by simp only [nextY]; omega⟩
theorem pix_inj {p q : Sp8} (h : pix p = pix q) : p = q := by
  have h1 := p.2.1; have h2 := q.2.1
  unfold pix at h
  exact Subtype.ext (Prod.ext (by omega) (by omega))
/-- the places of a list that fit -/
def plF (l : List Sp8) (pb : Sp8 → Bool) (i : Nat) : Bool := l.any fun p => (pix p == i) && pb p
/-- so far as the first ones go -/
def plA (l : List Sp8) (pb : Sp8 → Bool) : Nat → Bool := l.foldl (fun f p => setB f (pix p) (pb p)) fun _ => false
theorem plA_app (l : List Sp8) (pb : Sp8 → Bool) (p : Sp8) : plA (l ++ [p]) pb = setB (plA l pb) (pix p) (pb p) := by unfold plA; rw [List.foldl_append]; rfl
theorem plF_mem {l : List Sp8} {pb : Sp8 → Bool} {i : Nat} : plF l pb i = true ↔ ∃ p ∈ l, pix p = i ∧ pb p = true := by
  unfold plF
  rw [List.any_eq_true]
  constructor
  · rintro ⟨p, hp, h⟩
    rw [Bool.and_eq_true, beq_iff_eq] at h
    exact ⟨p, hp, h⟩
  · rintro ⟨p, hp, h1, h2⟩
    exact ⟨p, hp, by rw [Bool.and_eq_true, beq_iff_eq]; exact ⟨h1, h2⟩⟩
theorem plA_val : ∀ (l : List Sp8) (pb : Sp8 → Bool) (g : Nat → Bool) (i : Nat), (l.map pix).Nodup → l.foldl (fun f p => setB f (pix p) (pb p)) g i = if i ∈ l.map pix then plF l pb i else g i
  | [], pb, g, i, _ => rfl
  | p :: l, pb, g, i, hn => by
    rw [List.map_cons, List.nodup_cons] at hn
    rw [List.foldl_cons, plA_val l pb _ i hn.2]
    have e : plF (p :: l) pb i = (((pix p == i) && pb p) || plF l pb i) := rfl
    by_cases h1 : i ∈ l.map pix
    · rw [if_pos h1, if_pos (by rw [List.map_cons]; exact List.mem_cons_of_mem _ h1), e]
      have : (pix p == i) = false := by
        have : pix p ≠ i := fun h => hn.1 (h ▸ h1)
        simpa using this
      rw [this]; rfl
    · rw [if_neg h1]
      have h0 : plF l pb i = false := by
        cases h : plF l pb i
        · rfl
        · obtain ⟨q, hq, hqi, _⟩ := plF_mem.1 h
          exact absurd (hqi ▸ List.mem_map_of_mem hq) h1
      by_cases h2 : i = pix p
      · rw [if_pos (by rw [h2, List.map_cons]; exact List.mem_cons_self), e, h0, Bool.or_false]
        unfold setB
        rw [if_pos h2, h2, beq_self_eq_true, Bool.true_and]
      · rw [if_neg (by rw [List.map_cons, List.mem_cons]; exact fun h => h.elim h2 h1)]
        unfold setB; rw [if_neg h2]
theorem plA_plF (l : List Sp8) (pb : Sp8 → Bool) (hn : (l.map pix).Nodup) (i : Nat) : plA l pb i = plF l pb i := by
  unfold plA
  rw [plA_val l pb _ i hn]
  split
  · rfl
  · rename_i h
    cases h0 : plF l pb i
    · rfl
    · obtain ⟨q, hq, hqi, _⟩ := plF_mem.1 h0
      exact absurd (hqi ▸ List.mem_map_of_mem hq) h
/-- the program's spread, and its inner cells -/
def sprP (s : Sh) (f : Nat → Bool) (p : Sp8) : Bool := f (pix p) || (nbs s p.1.1 p.1.2 4).any fun q => f (pix q)
def innP (s : Sh) (f : Nat → Bool) (p : Sp8) : Bool := f (pix p) && !((nbs s p.1.1 p.1.2 4).any fun q => !f (pix q))
/-- the cells that are not waxed -/
theorem frL_mem {s : Sh} {a c : Nat} (ea : s.wide = a) (ec : s.high = c) (ha : a ≤ 8) (hc : c ≤ 8) (p : Sp8) : p ∈ dryL s (cellsL a c) ↔ freeB s p.1.1 p.1.2 = true := by
  have hm : p ∈ cellsL a c ↔ (p.1.1 < a ∧ p.1.2 < c) := by
    constructor
    · intro h
      have : p.1 ∈ pairsL a c := by rw [← cellsL_val a c ha c hc]; exact List.mem_map_of_mem h
      exact pairsL_mem this
    · rintro ⟨h1, h2⟩
      have h3 : (p.1.1, p.1.2) ∈ (cellsL a c).map (·.1) := by
        rw [cellsL_val a c ha c hc]
        simp only [pairsL, List.mem_flatMap, List.mem_range, List.mem_map]
        exact ⟨p.1.2, h2, p.1.1, h1, rfl⟩
      obtain ⟨q, hq, e⟩ := List.mem_map.1 h3
      have : q = p := Subtype.ext e
      exact this ▸ hq
  unfold dryL
  rw [List.mem_filter, hm]
  unfold freeB hasB
  rw [Int.toNat_natCast, Int.toNat_natCast]
  simp [ea, ec]
/-- a set of free cells -/
def inFree (s : Sh) (f : Nat → Bool) : Prop := ∀ p : Sp8, f (pix p) = true → freeB s p.1.1 p.1.2 = true
theorem ix_sp (i : Nat) (hi : i < 64) : ∃ p : Sp8, pix p = i := ⟨⟨(i % 8, i / 8), by constructor <;> simp only <;> omega⟩, by unfold pix; simp only; omega⟩
/-- the model's spread: each cell of the set, and its neighbours -/
def setN (l : List Sp8) (f : Nat → Bool) : Nat → Bool := l.foldl (fun f q => setB f (pix q) true) f
theorem setN_app (l : List Sp8) (f : Nat → Bool) (q : Sp8) : setN (l ++ [q]) f = setB (setN l f) (pix q) true := by unfold setN; rw [List.foldl_append]; rfl
theorem setN_val : ∀ (l : List Sp8) (f : Nat → Bool) (i : Nat), setN l f i = true ↔ (f i = true ∨ ∃ q ∈ l, pix q = i)
  | [], f, i => by simp [setN]
  | q :: l, f, i => by
    have e : setN (q :: l) f = setN l (setB f (pix q) true) := rfl
    rw [e, setN_val l]
    unfold setB
    constructor
    · rintro (h | ⟨r, hr, h⟩)
      · by_cases hi : i = pix q
        · exact .inr ⟨q, List.mem_cons_self, hi.symm⟩
        · rw [if_neg hi] at h; exact .inl h
      · exact .inr ⟨r, List.mem_cons_of_mem _ hr, h⟩
    · rintro (h | ⟨r, hr, h⟩)
      · left; split
        · rfl
        · exact h
      · rcases List.mem_cons.1 hr with rfl | hr
        · left; rw [if_pos h.symm]
        · exact .inr ⟨r, hr, h⟩
def mspr (s : Sh) (l : List Sp8) (f : Nat → Bool) : Nat → Bool := l.foldl (fun f p => setN (nbs s p.1.1 p.1.2 4) f) f
theorem mspr_app (s : Sh) (l : List Sp8) (f : Nat → Bool) (p : Sp8) : mspr s (l ++ [p]) f = setN (nbs s p.1.1 p.1.2 4) (mspr s l f) := by unfold mspr; rw [List.foldl_append]; rfl
theorem mspr_val (s : Sh) : ∀ (l : List Sp8) (f : Nat → Bool) (i : Nat), mspr s l f i = true ↔ (f i = true ∨ ∃ p ∈ l, ∃ q ∈ nbs s p.1.1 p.1.2 4, pix q = i)
  | [], f, i => by simp [mspr]
  | p :: l, f, i => by
    have e : mspr s (p :: l) f = mspr s l (setN (nbs s p.1.1 p.1.2 4) f) := rfl
    rw [e, mspr_val s l, setN_val]
    constructor
    · rintro ((h | ⟨q, hq, h⟩) | ⟨r, hr, h⟩)
      · exact .inl h
      · exact .inr ⟨p, List.mem_cons_self, q, hq, h⟩
      · exact .inr ⟨r, List.mem_cons_of_mem _ hr, h⟩
    · rintro (h | ⟨r, hr, q, hq, h⟩)
      · exact .inl (.inl h)
      · rcases List.mem_cons.1 hr with rfl | hr
        · exact .inl (.inr ⟨q, hq, h⟩)
        · exact .inr ⟨r, hr, q, hq, h⟩
/-- all cells of a set -/
def allL (f : Nat → Bool) : List Sp8 := fl (fun x y => f (8 * y + x)) (cellsL 8 8)
theorem allL_mem (f : Nat → Bool) (p : Sp8) : p ∈ allL f ↔ f (pix p) = true := by
  unfold allL fl
  rw [List.mem_filter]
  have hm : p ∈ cellsL 8 8 := by
    have h3 : (p.1.1, p.1.2) ∈ (cellsL 8 8).map (·.1) := by
      rw [cellsL_val 8 8 (by omega) 8 (by omega)]
      simp only [pairsL, List.mem_flatMap, List.mem_range, List.mem_map]
      exact ⟨p.1.2, p.2.2, p.1.1, p.2.1, rfl⟩
    obtain ⟨q, hq, e⟩ := List.mem_map.1 h3
    have : q = p := Subtype.ext e
    exact this ▸ hq
  exact ⟨fun h => h.2, fun h => ⟨hm, h⟩⟩
/-- the model's spread is the program's -/
theorem spr_eq {s : Sh} {a c : Nat} (hok : okI s = true) (ea : s.wide = a) (ec : s.high = c) (ha : a ≤ 8) (hc : c ≤ 8) {f : Nat → Bool} (hf : inFree s f) (i : Nat) (hi : i < 64) : mspr s (allL f) f i = plF (dryL s (cellsL a c)) (sprP s f) i := by
  rw [Bool.eq_iff_iff, mspr_val, plF_mem]
  constructor
  · rintro (h | ⟨p, hp, q, hq, rfl⟩)
    · obtain ⟨p, rfl⟩ := ix_sp i hi
      exact ⟨p, (frL_mem ea ec ha hc p).2 (hf p h), rfl, by unfold sprP; rw [h]; rfl⟩
    · have hp1 := (allL_mem f p).1 hp
      have hq1 := ((nbs_iff hok q 4).1 hq).1
      refine ⟨q, (frL_mem ea ec ha hc q).2 hq1, rfl, ?_⟩
      unfold sprP
      rw [Bool.or_eq_true]
      right
      exact List.any_eq_true.2 ⟨p, nbs_symm hok p q (hf p hp1) hq, hp1⟩
  · rintro ⟨p, hp, rfl, h⟩
    unfold sprP at h
    rw [Bool.or_eq_true] at h
    rcases h with h | h
    · exact .inl h
    · obtain ⟨q, hq, hfq⟩ := List.any_eq_true.1 h
      exact .inr ⟨q, (allL_mem f q).2 hfq, p, nbs_symm hok p q ((frL_mem ea ec ha hc p).1 hp) hq, rfl⟩
theorem spr_free {s : Sh} {a c : Nat} (ea : s.wide = a) (ec : s.high = c) (ha : a ≤ 8) (hc : c ≤ 8) (pb : Sp8 → Bool) : inFree s (plF (dryL s (cellsL a c)) pb) := fun p h => by
  obtain ⟨q, hq, e, _⟩ := plF_mem.1 h
  exact pix_inj e ▸ (frL_mem ea ec ha hc q).1 hq
end Go.Proofs.YthienbbecbakjaaDoor
