import Derived.Deep.RegionHeld3
import Derived.Test.YthienbbecbakjaaDoorG1
import Derived.Test.YthienbbecbakjaaDoorVF
import Derived.Test.YthienbbecbakjaaDoorVA
import Derived.Test.YthienbbecbakjaaDoorBeside
import Derived.Test.YthienbbecbakjaaDoorGive
import Derived.Test.YthienbbecbakjaaDoorQT
import Derived.Test.YthienbbecbakjaaDoorVB
import Derived.Test.YthienbbecbakjaaDoorCodeOf
namespace Go.Proofs.YthienbbecbakjaaDoor
open Go.RowKit
set_option maxRecDepth 100000
set_option linter.unusedVariables false
set_option linter.unusedSimpArgs false
theorem Owns.any {w : World} {base : Nat} {v : Value} {l : List Sp8} (h : Owns w base v l) : ∃ ptr g cap f, v = .slice ptr l.length cap ∧ (0 < l.length → ptr = some ⟨g, 0, none⟩ ∧ base ≤ g ∧ l.length ≤ cap ∧ w.heap[g]? = some (.cells (vrow (cap * 2) f) 61) ∧
    ∀ (i : Nat) (hi : i < l.length), f (i * 2) = .int .i8 (l[i]'hi).1.1 ∧ f (i * 2 + 1) = .int .i8 (l[i]'hi).1.2) := by
  by_cases hl : l.length = 0
  · obtain ⟨b0, cap0, hsv⟩ := h.nil_cases hl
    rcases hsv with rfl | rfl
    · exact ⟨_, 0, _, fun _ => undef, by rw [hl], fun h => absurd h (by omega)⟩
    · exact ⟨_, 0, _, fun _ => undef, by rw [hl], fun h => absurd h (by omega)⟩
  · obtain ⟨g, cap, f, hv, hg, hcap, hO, hf⟩ := h.row (by omega)
    exact ⟨_, g, cap, f, hv, fun _ => ⟨rfl, hg, hcap, hO, hf⟩⟩
end Go.Proofs.YthienbbecbakjaaDoor
namespace Go.Proofs.YthienbbecbakjaaDoor
open Go.RowKit
set_option maxRecDepth 100000
set_option linter.unusedVariables false
set_option linter.unusedSimpArgs false
/-- all spots of a list are cells of the sheet -/
def insL (s : Sh) (px py : Nat → Int) : Nat → Bool
  | 0 => true
  | k + 1 => insL s px py k && hasB s (px k) (py k)
theorem insL_no {s : Sh} {px py : Nat → Int} {k : Nat} (h : hasB s (px k) (py k) = false) : ∀ n, k < n → insL s px py n = false
  | 0, h0 => by omega
  | n + 1, h0 => by
    show (insL s px py n && hasB s (px n) (py n)) = false
    by_cases he : k = n
    · rw [← he, h, Bool.and_false]
    · rw [insL_no h n (by omega)]; rfl
theorem insL_all {s : Sh} {px py : Nat → Int} : ∀ n, insL s px py n = true → ∀ i, i < n → hasB s (px i) (py i) = true
  | 0, _, i, hi => by omega
  | n + 1, h, i, hi => by
    have h2 : (insL s px py n && hasB s (px n) (py n)) = true := h
    rw [Bool.and_eq_true] at h2
    by_cases he : i = n
    · rw [he]; exact h2.2
    · exact insL_all n h2.1 i (by omega)
theorem insL_in8 {s : Sh} (hok : okI s = true) {px py : Nat → Int} {n : Nat} (h : insL s px py n = true) : inB8 px py n := fun i hi => by
  obtain ⟨u, v, e1, e2, h1, h2⟩ := ok_has s hok _ _ (insL_all n h i hi)
  exact ⟨u, v, e1, e2, h1, h2⟩
set_option maxHeartbeats 2000000 in
theorem asked_bad (s : Sh) (b D n : Nat) (px py : Nat → Int) (w : World) (hn : n ≤ 1048576) (hf : s.fit) (h1 : w.heap[b]? = some (.cells (vrow 266 s.at) 37)) (h2 : w.heap[D]? = some (.cells (vrow (n * 2) (spf px py)) 61)) (ho : okI s = false) : Calls Tryd.prog 24 #[.pointer (some ⟨b, 0, none⟩), .slice (some ⟨D, 0, none⟩) n n] w fun e w' => e = .returned (.int .i64 1) ∧ Below w.heap.size w w' := by
  have HO0 := fun w hs => ok_any s b w hs hf
  rw [← ok_eq s hf, ho] at HO0
  have HO := Go.Lib.hid HO0
  clear HO0 hf ho
  go_enter Tryd.func24, Tryd.ntmps24
  go_wp2_with (first
    | go_skip
    | (go_at_call 49; (refine (HO.out _ h1).mono ?_); rintro o w1 ⟨rfl, hb⟩))
  go_ret
  exact ⟨rfl, hb⟩
set_option maxHeartbeats 4000000 in
theorem asked_any (s : Sh) (b D n : Nat) (px py : Nat → Int) (w : World) (hn : n ≤ 1048576) (hf : s.fit) (h1 : w.heap[b]? = some (.cells (vrow 266 s.at) 37)) (h2 : w.heap[D]? = some (.cells (vrow (n * 2) (spf px py)) 61)) (hpx : ∀ i, i < n → -128 ≤ px i ∧ px i ≤ 127) (hpy : ∀ i, i < n → -128 ≤ py i ∧ py i ≤ 127) (ho : okI s = true) (bb : Bool) (hbb : insL s px py n = bb) : Calls Tryd.prog 24 #[.pointer (some ⟨b, 0, none⟩), .slice (some ⟨D, 0, none⟩) n n] w fun e w' => e = .returned (.int .i64 (if bb then 0 else 2)) ∧ Below w.heap.size w w' := by
  have HO0 := fun w hs => ok_any s b w hs hf
  rw [← ok_eq s hf, ho] at HO0
  have HO := Go.Lib.hid HO0
  have HIS := Go.Lib.hid fun k (hk : k < n) w hs => is_any s b (px k) (py k) w hs hf (hpx k hk) (hpy k hk)
  clear HO0 hf ho hpx hpy
  have P := Go.Lib.hid h1; have L := Go.Lib.hid h2; have hB := Go.Lib.hid (Below.refl w.heap.size w)
  clear h1 h2
  go_enter Tryd.func24, Tryd.ntmps24
  go_wp2_with (first
    | go_skip
    | (go_at_call 49; (refine (HO.out _ P.out).mono ?_); rintro o w1 ⟨rfl, hb⟩; replace P := Go.Lib.hid (row_next hb P.out); replace L := Go.Lib.hid (row_next hb L.out); replace hB := Go.Lib.hid (below_next hB.out hb); clear hb))
  have p1 := P.out; have l1 := L.out; have b1 := hB.out
  clear P L hB
  go_loopw [5] (fun kv wr => ∃ k : Nat, k ≤ n ∧ kv = .int .i64 k ∧ insL s px py k = true ∧ wr.heap[b]? = some (.cells (vrow 266 s.at) 37) ∧ wr.heap[D]? = some (.cells (vrow (n * 2) (spf px py)) 61) ∧ Below w.heap.size w wr) (fun kv _ => n - (intOf kv).toNat)
  case atStart => exact ⟨0, by omega, rfl, rfl, p1, l1, b1⟩
  case round =>
    clear p1 l1 b1
    obtain ⟨k, hk, rfl, hall, P, L, hB⟩ := hrel
    by_cases hlt : k < n
    · have hkI : (k : Int) < (n : Int) := by omega
      have hk0 : (0 : Int) ≤ (k : Int) := by omega
      have hkd : decide ((k : Int) < (n : Int)) = true := by simpa using hkI
      have HR : Hid (vrow 2 (fun j => spf px py (k * 2 + j)) = #[.int .i8 (px k), .int .i8 (py k)]) := Go.Lib.hid (spf_two px py k)
      have HI0 := HIS.out k hlt
      have hst : insL s px py (k + 1) = (insL s px py k && hasB s (px k) (py k)) := rfl
      have hno := fun h => insL_no (s := s) (px := px) (py := py) (k := k) h n hlt
      replace P := Go.Lib.hid P; replace L := Go.Lib.hid L; replace hB := Go.Lib.hid hB
      cases hh : hasB s (px k) (py k)
      · rw [hh] at HI0
        have HI := Go.Lib.hid HI0
        have hbf : bb = false := by rw [← hbb]; exact hno hh
        clear HI0 hst hno hbb
        subst hbf
        go_wp2_with (first
          | go_skip
          | ((with_reducible refine wlAt 19 rfl ?_); refine wpList_loadmid rfl 61 (.tmp 18) rfl D (k * 2) rfl (n * 2) 2 (spf px py) 61 _ Tryd.underlying61 rfl size_spot L.out (by omega) ?_; rw [HR.out])
          | (go_at_call 50; (refine (HI.out _ P.out).mono ?_); rintro o w1 ⟨rfl, hb⟩; replace hB := Go.Lib.hid (below_next hB.out hb); clear hb))
        go_ret
        exact ⟨rfl, hB.out⟩
      · rw [hh] at HI0
        have HI := Go.Lib.hid HI0
        rw [hall, hh] at hst
        have HST := Go.Lib.hid hst
        clear HI0 hst hno
        go_wp2_with (first
          | go_skip
          | ((with_reducible refine wlAt 19 rfl ?_); refine wpList_loadmid rfl 61 (.tmp 18) rfl D (k * 2) rfl (n * 2) 2 (spf px py) 61 _ Tryd.underlying61 rfl size_spot L.out (by omega) ?_; rw [HR.out])
          | (go_at_call 50; (refine (HI.out _ P.out).mono ?_); rintro o w1 ⟨rfl, hb⟩; replace P := Go.Lib.hid (row_next hb P.out); replace L := Go.Lib.hid (row_next hb L.out); replace hB := Go.Lib.hid (below_next hB.out hb); clear hb))
        go_roundw
        case rel => exact ⟨k + 1, by omega, by go_num, by rw [HST.out]; rfl, P.out, L.out, hB.out⟩
        case measure => simp [intOf]; omega
    · obtain rfl : k = n := by omega
      have hkd : decide ((k : Int) < (k : Int)) = false := by simp
      have hbt : bb = true := by rw [← hbb]; exact hall
      subst hbt
      go_wp2
      go_ret
      exact ⟨rfl, hB⟩
/-- the cells of a list that are not waxed -/
def mkS (s : Sh) (px py : Nat → Int) : Nat → Nat → Bool
  | 0 => fun _ => false
  | k + 1 => if waxB s (px k).toNat (py k).toNat then mkS s px py k else setB (mkS s px py k) (8 * (py k).toNat + (px k).toNat) true
theorem spf_x (px py : Nat → Int) (k : Nat) : spf px py (k * 2) = .int .i8 (px k) := by unfold spf; rw [if_pos (by omega), show k * 2 / 2 = k by omega]
theorem spf_y (px py : Nat → Int) (k : Nat) : spf px py (k * 2 + 1) = .int .i8 (py k) := by unfold spf; rw [if_neg (by omega), show (k * 2 + 1) / 2 = k by omega]
set_option maxHeartbeats 4000000 in
theorem lset_any (s : Sh) (b : Nat) (px py : Nat → Int) (D n : Nat) (w : World) (hn : n ≤ 1048576) (hin : inB8 px py n) (h1 : w.heap[b]? = some (.cells (vrow 266 s.at) 37)) (h2 : w.heap[D]? = some (.cells (vrow (n * 2) (spf px py)) 61)) : Calls Tryd.prog 25 #[.pointer (some ⟨b, 0, none⟩), .slice (some ⟨D, 0, none⟩) n n] w fun e w' => e = .returned (.agg (vrow 64 (blf (mkS s px py n)))) ∧ Below w.heap.size w w' := by
  have nd := row_lt h2
  have zb := zero_b88
  have nb := row_lt h1
  have Z : Hid (((w.alloc (.cells (vrow 64 (blf fun _ => false)) 52)).alloc (.cells (vrow 64 (blf fun _ => false)) 52)).heap[w.heap.size]? = some (.cells (vrow 64 (blf fun _ => false)) 52)) := heap_past _ _ _ _ (by simp <;> omega) (heap_at _ _ _ (by simp))
  have V : Hid (((w.alloc (.cells (vrow 64 (blf fun _ => false)) 52)).alloc (.cells (vrow 64 (blf fun _ => false)) 52)).heap[w.heap.size + 1]? = some (.cells (vrow 64 (blf fun _ => false)) 52)) := heap_at _ _ _ (by simp)
  have L : Hid (((w.alloc (.cells (vrow 64 (blf fun _ => false)) 52)).alloc (.cells (vrow 64 (blf fun _ => false)) 52)).heap[D]? = some (.cells (vrow (n * 2) (spf px py)) 61)) := heap_past _ _ _ _ (by simp <;> omega) (heap_past _ _ _ _ nd h2)
  have P : Hid (((w.alloc (.cells (vrow 64 (blf fun _ => false)) 52)).alloc (.cells (vrow 64 (blf fun _ => false)) 52)).heap[b]? = some (.cells (vrow 266 s.at) 37)) := heap_past _ _ _ _ (by simp <;> omega) (heap_past _ _ _ _ nb h1)
  have hB : Hid (Below w.heap.size w ((w.alloc (.cells (vrow 64 (blf fun _ => false)) 52)).alloc (.cells (vrow 64 (blf fun _ => false)) 52))) := Go.Lib.hid (((Below.refl w.heap.size w).alloc (by simp <;> omega) _).alloc (by simp <;> omega) _)
  go_enter Tryd.func25, Tryd.ntmps25
  go_wp2_with (first
    | go_skip
    | ((with_reducible refine wlAt 7 rfl ?_); refine wpList_built rfl 52 [] rfl [] (by rfl) _ built_b88 ?_)
    | ((with_reducible refine wlOp (.store 52 (.tmp 5) (.tmp 7)) rfl ?_); refine wpList_storeall rfl 52 (.tmp 5) (.tmp 7) rfl (w.heap.size + 1) rfl 64 (blf fun _ => false) (blf fun _ => false) rfl 52 size_b88 V.out (fun i _ => blf_one _ i) ?_; rw [setRow_self V.out]))
  have z1 := Z.out; have v1 := V.out; have l1 := L.out; have b1 := hB.out; have p1 := P.out
  clear Z V L hB P
  go_loopw [6] (fun kv wr => ∃ k : Nat, k ≤ n ∧ kv = .int .i64 k ∧ wr.heap[b]? = some (.cells (vrow 266 s.at) 37) ∧ wr.heap[w.heap.size]? = some (.cells (vrow 64 (blf fun _ => false)) 52) ∧ wr.heap[w.heap.size + 1]? = some (.cells (vrow 64 (blf (mkS s px py k))) 52) ∧ wr.heap[D]? = some (.cells (vrow (n * 2) (spf px py)) 61) ∧ Below w.heap.size w wr) (fun kv _ => n - (intOf kv).toNat)
  case atStart => exact ⟨0, by omega, rfl, p1, z1, v1, l1, b1⟩
  case round =>
    clear z1 v1 l1 b1 p1
    obtain ⟨k, hk, rfl, P, Z, V, L, hB⟩ := hrel
    by_cases hlt : k < n
    · have hkI : (k : Int) < (n : Int) := by omega
      have hk0 : (0 : Int) ≤ (k : Int) := by omega
      have hkd : decide ((k : Int) < (n : Int)) = true := by simpa using hkI
      obtain ⟨x, y, ex, ey, hx, hy⟩ := hin k hlt
      have hfx := spf_x px py k; have hfy := spf_y px py k
      rw [ex] at hfx; rw [ey] at hfy
      have HX := Go.Lib.hid hfx; have HY := Go.Lib.hid hfy
      clear hfx hfy
      have hxI : (x : Int) < 8 := by omega
      have hyI : (y : Int) < 8 := by omega
      have hst : mkS s px py (k + 1) = if waxB s x y then mkS s px py k else setB (mkS s px py k) (8 * y + x) true := by show (if waxB s _ _ then _ else setB _ _ _) = _; rw [ex, ey, Int.toNat_natCast, Int.toNat_natCast]
      have HR : Hid (vrow 2 (fun j => spf px py (k * 2 + j)) = #[.int .i8 (x : Int), .int .i8 (y : Int)]) := Go.Lib.hid (by rw [spf_two, ex, ey]; rfl)
      have HW0 := fun w hs => lwaxed_any s b x y w hs hx hy
      clear ex ey
      generalize mkS s px py k = g at *
      replace Z := Go.Lib.hid Z; replace V := Go.Lib.hid V; replace L := Go.Lib.hid L; replace hB := Go.Lib.hid hB; replace P := Go.Lib.hid P
      cases hwx : waxB s x y
      all_goals
        rw [hwx] at HW0 hst
        have HW := Go.Lib.hid HW0; have HST := Go.Lib.hid hst
        clear HW0 hst
        go_wp2_with (first
          | go_skip
          | ((with_reducible refine wlAt 18 rfl ?_); refine wpList_loadmid rfl 61 (.tmp 17) rfl D (k * 2) rfl (n * 2) 2 (spf px py) 61 _ Tryd.underlying61 rfl size_spot L.out (by omega) ?_; rw [HR.out])
          | (go_at_call 51; (refine (HW.out _ P.out).mono ?_); rintro o w1 ⟨rfl, hb⟩; replace P := Go.Lib.hid (row_next hb P.out); replace L := Go.Lib.hid (row_next hb L.out); replace Z := Go.Lib.hid (row_next hb Z.out); replace V := Go.Lib.hid (row_next hb V.out); replace hB := Go.Lib.hid (below_next hB.out hb); clear hb))
      · replace HST := Go.Lib.hid (show mkS s px py (k + 1) = setB g (8 * y + x) true from HST.out)
        refine wp_region_still_tail 12 (by kernel_rfl) (by kernel_rfl) ?_
        simp only [List.take_succ_cons, List.take_zero, List.drop_succ_cons, List.drop_zero, World.drew_eq]
        repeat (first
          | (refine wpStill_load1 rfl 22 (.tmp 24) rfl D (k * 2 + 1) rfl (n * 2) (spf px py) _ _ Tryd.underlying22 rfl L.out (by omega) ?_; rw [HY.out]; simp only [Act.put, List.setIfInBounds_toArray, List.set_cons_succ, List.set_cons_zero])
          | (refine wpStill_load1 rfl 22 (.tmp 29) rfl D (k * 2) rfl (n * 2) (spf px py) _ _ Tryd.underlying22 rfl L.out (by omega) ?_; rw [HX.out]; simp only [Act.put, List.setIfInBounds_toArray, List.set_cons_succ, List.set_cons_zero])
          | still_step
          | (refine wpStill_step (fun K hK => ?_); go_simp; simp only [hxI, hyI, hkI, if_true]; go_simp; refine hK _ ?_; clear hK K))
        refine wpStill_nil ?_
        refine wpList_store1 rfl 4 (.tmp 32) (.const (.bool true)) rfl (w.heap.size + 1) (y * 8 + x) rfl 64 (blf g) (.bool true) rfl 52 size_bool8 V.out (by omega) rfl ?_
        rw [blf_set, Nat.mul_comm y 8]
        have Z2 := row_set' (w := w1.drew) (g := w.heap.size + 1) (by omega) Z.out (vrow 64 (blf (setB g (8 * y + x) true)))
        have L2 := row_set' (w := w1.drew) (g := w.heap.size + 1) (by omega) L.out (vrow 64 (blf (setB g (8 * y + x) true)))
        have V2 := row_set (w := w1.drew) V.out (vrow 64 (blf (setB g (8 * y + x) true)))
        have P2 := row_set' (w := w1.drew) (g := w.heap.size + 1) (by omega) P.out (vrow 64 (blf (setB g (8 * y + x) true)))
        have hB2 := Below_setRow hB.out.drew (show w.heap.size ≤ w.heap.size + 1 by omega) (vrow 64 (blf (setB g (8 * y + x) true)))
        clear Z V L hB P
        generalize World.setRow w1.drew _ _ = w9 at Z2 L2 V2 hB2 P2 ⊢
        go_wp2
        go_roundw
        case rel => exact ⟨k + 1, by omega, by go_num, P2, Z2, by rw [HST.out]; exact V2, L2, hB2⟩
        case measure => simp [intOf]; omega
      · replace HST := Go.Lib.hid (show mkS s px py (k + 1) = g from HST.out)
        go_roundw
        case rel => exact ⟨k + 1, by omega, by go_num, P.out, Z.out, by rw [HST.out]; exact V.out, L.out, hB.out⟩
        case measure => simp [intOf]; omega
    · obtain rfl : k = n := by omega
      have hkd : decide ((k : Int) < (k : Int)) = false := by simp
      obtain ⟨g, hg⟩ : ∃ g, mkS s px py k = g := ⟨_, rfl⟩
      rw [hg] at V
      have HG := Go.Lib.hid hg
      clear hg
      replace Z := Go.Lib.hid Z; replace V := Go.Lib.hid V; replace hB := Go.Lib.hid hB
      go_wp2_with (first
        | go_skip
        | ((with_reducible refine wlAt 33 rfl ?_); refine wpList_loadall rfl 52 (.tmp 5) rfl (w.heap.size + 1) rfl 64 (blf g) 52 _ Tryd.underlying52 rfl size_b88 V.out ?_)
        | ((with_reducible refine wlOp (.store 52 (.tmp 4) (.tmp 33)) rfl ?_); refine wpList_storeall rfl 52 (.tmp 4) (.tmp 33) rfl w.heap.size rfl 64 (blf fun _ => false) (blf g) rfl 52 size_b88 Z.out (fun i _ => blf_one _ i) ?_; replace Z := Go.Lib.hid (row_set Z.out (vrow 64 (blf g))); replace hB := Go.Lib.hid (Below_setRow hB.out (Nat.le_refl _) (vrow 64 (blf g)))))
      exact ret_row Tryd.results25 w.heap.size 64 (blf g) 52 _ Tryd.underlying52 rfl size_b88 rfl rfl Z.out ⟨by rw [HG.out], hB.out⟩
set_option maxHeartbeats 4000000 in
theorem lmask_any (px py : Nat → Int) (D n : Nat) (w : World) (hn : n ≤ 1048576) (hin : inB8 px py n) (h2 : w.heap[D]? = some (.cells (vrow (n * 2) (spf px py)) 61)) : Calls Tryd.prog 45 #[.slice (some ⟨D, 0, none⟩) n n] w fun e w' => e = .returned (.agg (vrow 64 (blf (mkA px py n)))) ∧ Below w.heap.size w w' := by
  have nd := row_lt h2
  have zb := zero_b88
  have Z : Hid (((w.alloc (.cells (vrow 64 (blf fun _ => false)) 52)).alloc (.cells (vrow 64 (blf fun _ => false)) 52)).heap[w.heap.size]? = some (.cells (vrow 64 (blf fun _ => false)) 52)) := heap_past _ _ _ _ (by simp <;> omega) (heap_at _ _ _ (by simp))
  have V : Hid (((w.alloc (.cells (vrow 64 (blf fun _ => false)) 52)).alloc (.cells (vrow 64 (blf fun _ => false)) 52)).heap[w.heap.size + 1]? = some (.cells (vrow 64 (blf fun _ => false)) 52)) := heap_at _ _ _ (by simp)
  have L : Hid (((w.alloc (.cells (vrow 64 (blf fun _ => false)) 52)).alloc (.cells (vrow 64 (blf fun _ => false)) 52)).heap[D]? = some (.cells (vrow (n * 2) (spf px py)) 61)) := heap_past _ _ _ _ (by simp <;> omega) (heap_past _ _ _ _ nd h2)
  have hB : Hid (Below w.heap.size w ((w.alloc (.cells (vrow 64 (blf fun _ => false)) 52)).alloc (.cells (vrow 64 (blf fun _ => false)) 52))) := Go.Lib.hid (((Below.refl w.heap.size w).alloc (by simp <;> omega) _).alloc (by simp <;> omega) _)
  go_enter Tryd.func45, Tryd.ntmps45
  go_wp2_with (first
    | go_skip
    | ((with_reducible refine wlAt 5 rfl ?_); refine wpList_built rfl 52 [] rfl [] (by rfl) _ built_b88 ?_)
    | ((with_reducible refine wlOp (.store 52 (.tmp 3) (.tmp 5)) rfl ?_); refine wpList_storeall rfl 52 (.tmp 3) (.tmp 5) rfl (w.heap.size + 1) rfl 64 (blf fun _ => false) (blf fun _ => false) rfl 52 size_b88 V.out (fun i _ => blf_one _ i) ?_; rw [setRow_self V.out]))
  have z1 := Z.out; have v1 := V.out; have l1 := L.out; have b1 := hB.out
  clear Z V L hB
  go_loopw [4] (fun kv wr => ∃ k : Nat, k ≤ n ∧ kv = .int .i64 k ∧ wr.heap[w.heap.size]? = some (.cells (vrow 64 (blf fun _ => false)) 52) ∧ wr.heap[w.heap.size + 1]? = some (.cells (vrow 64 (blf (mkA px py k))) 52) ∧ wr.heap[D]? = some (.cells (vrow (n * 2) (spf px py)) 61) ∧ Below w.heap.size w wr) (fun kv _ => n - (intOf kv).toNat)
  case atStart => exact ⟨0, by omega, rfl, z1, v1, l1, b1⟩
  case round =>
    clear z1 v1 l1 b1
    obtain ⟨k, hk, rfl, Z, V, L, hB⟩ := hrel
    by_cases hlt : k < n
    · have hkI : (k : Int) < (n : Int) := by omega
      have hk0 : (0 : Int) ≤ (k : Int) := by omega
      have hkd : decide ((k : Int) < (n : Int)) = true := by simpa using hkI
      obtain ⟨x, y, ex, ey, hx, hy⟩ := hin k hlt
      have hfx := spf_x px py k; have hfy := spf_y px py k
      rw [ex] at hfx; rw [ey] at hfy
      have HX := Go.Lib.hid hfx; have HY := Go.Lib.hid hfy
      clear hfx hfy
      have hxI : (x : Int) < 8 := by omega
      have hyI : (y : Int) < 8 := by omega
      have hst : mkA px py (k + 1) = setB (mkA px py k) (8 * y + x) true := by show setB _ _ _ = _; rw [ex, ey, Int.toNat_natCast, Int.toNat_natCast]
      have HST := Go.Lib.hid hst
      clear hst ex ey
      generalize mkA px py k = g at *
      replace Z := Go.Lib.hid Z; replace V := Go.Lib.hid V; replace L := Go.Lib.hid L; replace hB := Go.Lib.hid hB
      go_wp2
      refine wp_region_still_tail 12 (by kernel_rfl) (by kernel_rfl) ?_
      simp only [List.take_succ_cons, List.take_zero, List.drop_succ_cons, List.drop_zero, World.drew_eq]
      repeat (first
        | (refine wpStill_load1 rfl 22 (.tmp 15) rfl D (k * 2 + 1) rfl (n * 2) (spf px py) _ _ Tryd.underlying22 rfl L.out (by omega) ?_; rw [HY.out]; simp only [Act.put, List.setIfInBounds_toArray, List.set_cons_succ, List.set_cons_zero])
        | (refine wpStill_load1 rfl 22 (.tmp 20) rfl D (k * 2) rfl (n * 2) (spf px py) _ _ Tryd.underlying22 rfl L.out (by omega) ?_; rw [HX.out]; simp only [Act.put, List.setIfInBounds_toArray, List.set_cons_succ, List.set_cons_zero])
        | still_step
        | (refine wpStill_step (fun K hK => ?_); go_simp; simp only [hxI, hyI, hkI, if_true]; go_simp; refine hK _ ?_; clear hK K))
      refine wpStill_nil ?_
      refine wpList_store1 rfl 4 (.tmp 23) (.const (.bool true)) rfl (w.heap.size + 1) (y * 8 + x) rfl 64 (blf g) (.bool true) rfl 52 size_bool8 V.out (by omega) rfl ?_
      rw [blf_set, Nat.mul_comm y 8]
      have Z2 := row_set' (w := wr.drew) (g := w.heap.size + 1) (by omega) Z.out (vrow 64 (blf (setB g (8 * y + x) true)))
      have L2 := row_set' (w := wr.drew) (g := w.heap.size + 1) (by omega) L.out (vrow 64 (blf (setB g (8 * y + x) true)))
      have V2 := row_set (w := wr.drew) V.out (vrow 64 (blf (setB g (8 * y + x) true)))
      have hB2 := Below_setRow hB.out.drew (show w.heap.size ≤ w.heap.size + 1 by omega) (vrow 64 (blf (setB g (8 * y + x) true)))
      clear Z V L hB
      generalize World.setRow wr.drew _ _ = w9 at Z2 L2 V2 hB2 ⊢
      go_wp2
      go_roundw
      case rel => exact ⟨k + 1, by omega, by go_num, Z2, by rw [HST.out]; exact V2, L2, hB2⟩
      case measure => simp [intOf]; omega
    · obtain rfl : k = n := by omega
      have hkd : decide ((k : Int) < (k : Int)) = false := by simp
      obtain ⟨g, hg⟩ : ∃ g, mkA px py k = g := ⟨_, rfl⟩
      rw [hg] at V
      have HG := Go.Lib.hid hg
      clear hg
      replace Z := Go.Lib.hid Z; replace V := Go.Lib.hid V; replace hB := Go.Lib.hid hB
      go_wp2_with (first
        | go_skip
        | ((with_reducible refine wlAt 24 rfl ?_); refine wpList_loadall rfl 52 (.tmp 3) rfl (w.heap.size + 1) rfl 64 (blf g) 52 _ Tryd.underlying52 rfl size_b88 V.out ?_)
        | ((with_reducible refine wlOp (.store 52 (.tmp 2) (.tmp 24)) rfl ?_); refine wpList_storeall rfl 52 (.tmp 2) (.tmp 24) rfl w.heap.size rfl 64 (blf fun _ => false) (blf g) rfl 52 size_b88 Z.out (fun i _ => blf_one _ i) ?_; replace Z := Go.Lib.hid (row_set Z.out (vrow 64 (blf g))); replace hB := Go.Lib.hid (Below_setRow hB.out (Nat.le_refl _) (vrow 64 (blf g)))))
      exact ret_row Tryd.results45 w.heap.size 64 (blf g) 52 _ Tryd.underlying52 rfl size_b88 rfl rfl Z.out ⟨by rw [HG.out], hB.out⟩
end Go.Proofs.YthienbbecbakjaaDoor
namespace Go.Proofs.YthienbbecbakjaaDoor
open Go.RowKit
set_option maxRecDepth 100000
set_option linter.unusedVariables false
set_option linter.unusedSimpArgs false
/-- all spots are in the sheet when none is not -/
theorem ins_any (s : Sh) (px py : Nat → Int) : ∀ n, anyN (fun i => !hasB s (px i) (py i)) n = !insL s px py n
  | 0 => rfl
  | n + 1 => by
    show (anyN (fun i => !hasB s (px i) (py i)) n || !hasB s (px n) (py n)) = !(insL s px py n && hasB s (px n) (py n))
    rw [ins_any s px py n, Bool.not_and]
theorem spRow_of {w : World} {D n : Nat} {px py : Nat → Int} (h : w.heap[D]? = some (.cells (vrow (n * 2) (spf px py)) 61)) : SpRow w (some ⟨D, 0, none⟩) n px py := fun hn =>
  ⟨D, 0, n * 2, spf px py, rfl, by omega, h, fun i hi => by
    rw [Nat.zero_add]
    exact spf_two px py i⟩
set_option maxHeartbeats 2000000 in
theorem cks1_any (s : Sh) (b : Nat) (x y : Int) (w : World) (h1 : w.heap[b]? = some (.cells (vrow 266 s.at) 37)) : Calls Tryd.prog 65 #[.agg (vrow 2 (spAt x y)), .pointer (some ⟨b, 0, none⟩)] w fun e w' => e = .returned (.bool (!hasB s x y)) ∧ Below w.heap.size w w' := by
  have HH := Go.Lib.hid fun w => has_any s x y w
  have X : Hid ((w.alloc (.cells (vrow 2 (spAt x y)) 61)).heap[w.heap.size]? = some (.cells (vrow 2 (spAt x y)) 61)) := (heap_at _ _ _ (by simp))
  have hB : Hid (Below w.heap.size w (w.alloc (.cells (vrow 2 (spAt x y)) 61))) := Go.Lib.hid ((Below.refl w.heap.size w).alloc (by simp <;> omega) _)
  have P : Hid ((w.alloc (.cells (vrow 2 (spAt x y)) 61)).heap[b]? = some (.cells (vrow 266 s.at) 37)) := heap_past _ _ _ _ (row_lt h1) h1
  clear h1
  go_enter Tryd.func65, Tryd.ntmps65
  go_wp2_with (first
    | go_skip
    | ((with_reducible refine wlAt 4 rfl ?_); refine wpList_loadall rfl 37 (.tmp 1) rfl b rfl 266 s.at 37 _ Tryd.underlying37 rfl size_sheet P.out ?_)
    | ((with_reducible refine wlAt 5 rfl ?_); refine wpList_loadall rfl 61 (.tmp 2) rfl _ rfl 2 (spAt x y) 61 _ Tryd.underlying61 rfl size_spot X.out ?_)
    | (go_at_call 66; (refine (HH.out _).mono ?_); rintro o w1 ⟨rfl, hb⟩; replace hB := Go.Lib.hid (below_next hB.out hb); clear hb))
  go_ret
  exact ⟨rfl, hB.out⟩
set_option maxHeartbeats 2000000 in
theorem ckSpots_bad (s : Sh) (D n : Nat) (px py : Nat → Int) (e : ErrE) (w : World) (hn : n ≤ 1048576) (hE : Errs e w) (h2 : w.heap[D]? = some (.cells (vrow (n * 2) (spf px py)) 61)) (ho : okI s = false) (hf : s.fit) : Calls Tryd.prog 42 #[.agg s.row, .slice (some ⟨D, 0, none⟩) n n] w fun o w' => o = .returned (errP e 1) ∧ Below w.heap.size w w' := by
  have HC := Go.Lib.hid fun w hE => checkSheet_bad s ho e w hE
  have P : Hid ((w.alloc (.cells (vrow 266 s.at) 37)).heap[(w.heap.size)]? = some (.cells (vrow 266 s.at) 37)) := heap_at _ _ _ (by simp)
  have L : Hid ((w.alloc (.cells (vrow 266 s.at) 37)).heap[D]? = some (.cells (vrow (n * 2) (spf px py)) 61)) := heap_past _ _ _ _ (row_lt h2) h2
  have hB : Hid (Below w.heap.size w (w.alloc (.cells (vrow 266 s.at) 37))) := ((Below.refl w.heap.size w).alloc (by simp <;> omega) _)
  have E : Hid (Errs e (w.alloc (.cells (vrow 266 s.at) 37))) := hE.alloc _
  clear h2 hE ho
  go_enter Tryd.func42, Tryd.ntmps42
  go_wp2_with (first
    | go_skip
    | (with_reducible refine wlAt 6 rfl ?_; refine wpList_loadall rfl 37 (.tmp 2) rfl _ rfl 266 s.at 37 _ Tryd.underlying37 rfl size_sheet P.out ?_)
    | (go_at_call 64; (refine (HC.out _ E.out).mono ?_; rintro o w1 ⟨rfl, hb⟩; replace P := Go.Lib.hid (row_next hb P.out); replace L := Go.Lib.hid (row_next hb L.out); replace hB := Go.Lib.hid (below_next hB.out hb); replace E := Go.Lib.hid (E.out.next hb); clear hb)))
  go_ret
  exact ⟨rfl, hB.out⟩
set_option maxHeartbeats 2000000 in
theorem ckSpots_any (s : Sh) (D n : Nat) (px py : Nat → Int) (e : ErrE) (w : World) (hn : n ≤ 1048576) (hE : Errs e w) (h2 : w.heap[D]? = some (.cells (vrow (n * 2) (spf px py)) 61)) (ho : okI s = true) (hf : s.fit) (bb : Bool) (hbb : insL s px py n = bb) : Calls Tryd.prog 42 #[.agg s.row, .slice (some ⟨D, 0, none⟩) n n] w fun o w' => o = .returned (if bb then .nilIface else errP e 2) ∧ Below w.heap.size w w' := by
  have HC := Go.Lib.hid fun w hE => checkSheet_ok s ho e w hE
  have HN : Hid (∀ b W, W.heap[b]? = some (.cells (vrow 266 s.at) 37) → W.heap[D]? = some (.cells (vrow (n * 2) (spf px py)) 61) → Calls Tryd.prog 60 #[.slice (some ⟨D, 0, none⟩) n n, .func (.func 65) #[] #[.pointer (some ⟨b, 0, none⟩)]] W fun o w' => o = .returned (.bool !bb) ∧ Below W.heap.size W w') :=
    Go.Lib.hid fun b W h1 h2 => by
      have h3 := coF_any px py n n (some ⟨D, 0, none⟩) (fun i => !hasB s (px i) (py i)) 65 #[] #[.pointer (some ⟨b, 0, none⟩)] W hn (spRow_of h2) (fun _ _ => by kernel_rfl) fun i X hi hX => cks1_any s b (px i) (py i) X (row_next hX h1)
      rw [ins_any, hbb] at h3
      exact h3
  clear hbb
  have P : Hid ((w.alloc (.cells (vrow 266 s.at) 37)).heap[(w.heap.size)]? = some (.cells (vrow 266 s.at) 37)) := heap_at _ _ _ (by simp)
  have L : Hid ((w.alloc (.cells (vrow 266 s.at) 37)).heap[D]? = some (.cells (vrow (n * 2) (spf px py)) 61)) := heap_past _ _ _ _ (row_lt h2) h2
  have hB : Hid (Below w.heap.size w (w.alloc (.cells (vrow 266 s.at) 37))) := ((Below.refl w.heap.size w).alloc (by simp <;> omega) _)
  have E : Hid (Errs e (w.alloc (.cells (vrow 266 s.at) 37))) := hE.alloc _
  clear h2 hE ho
  go_enter Tryd.func42, Tryd.ntmps42
  cases bb
  · go_wp2_with (first
      | go_skip
      | (with_reducible refine wlAt 6 rfl ?_; refine wpList_loadall rfl 37 (.tmp 2) rfl _ rfl 266 s.at 37 _ Tryd.underlying37 rfl size_sheet P.out ?_)
      | (go_at_call 64; (refine (HC.out _ E.out).mono ?_; rintro o w1 ⟨rfl, hb⟩; replace P := Go.Lib.hid (row_next hb P.out); replace L := Go.Lib.hid (row_next hb L.out); replace hB := Go.Lib.hid (below_next hB.out hb); replace E := Go.Lib.hid (E.out.next hb); clear hb))
      | (go_at_call 60; (refine (HN.out _ _ P.out L.out).mono ?_; rintro o w1 ⟨rfl, hb⟩; replace P := Go.Lib.hid (row_next hb P.out); replace L := Go.Lib.hid (row_next hb L.out); replace hB := Go.Lib.hid (below_next hB.out hb); replace E := Go.Lib.hid (E.out.next hb); clear hb))
      | (with_reducible refine wlAt 14 rfl ?_; refine wpList_ld1 67 _ rfl (by first | exact want_n rfl | exact want_g _ _ _ rfl rfl rfl) 0 0 rfl 1 (fun _ => errP e 2) _ rw_err E.out.v2 (by omega) ?_))
    go_ret
    exact ⟨rfl, hB.out⟩
  · go_wp2_with (first
      | go_skip
      | (with_reducible refine wlAt 6 rfl ?_; refine wpList_loadall rfl 37 (.tmp 2) rfl _ rfl 266 s.at 37 _ Tryd.underlying37 rfl size_sheet P.out ?_)
      | (go_at_call 64; (refine (HC.out _ E.out).mono ?_; rintro o w1 ⟨rfl, hb⟩; replace P := Go.Lib.hid (row_next hb P.out); replace L := Go.Lib.hid (row_next hb L.out); replace hB := Go.Lib.hid (below_next hB.out hb); replace E := Go.Lib.hid (E.out.next hb); clear hb))
      | (go_at_call 60; (refine (HN.out _ _ P.out L.out).mono ?_; rintro o w1 ⟨rfl, hb⟩; replace P := Go.Lib.hid (row_next hb P.out); replace L := Go.Lib.hid (row_next hb L.out); replace hB := Go.Lib.hid (below_next hB.out hb); replace E := Go.Lib.hid (E.out.next hb); clear hb))
      | (with_reducible refine wlAt 14 rfl ?_; refine wpList_ld1 67 _ rfl (by first | exact want_n rfl | exact want_g _ _ _ rfl rfl rfl) 0 0 rfl 1 (fun _ => errP e 2) _ rw_err E.out.v2 (by omega) ?_))
    go_ret
    exact ⟨rfl, hB.out⟩
end Go.Proofs.YthienbbecbakjaaDoor
namespace Go.Proofs.YthienbbecbakjaaDoor
open Go.RowKit
set_option maxRecDepth 100000
set_option linter.unusedVariables false
set_option linter.unusedSimpArgs false
/-- some spot of a list is waxed -/
def waxL (s : Sh) (px py : Nat → Int) : Nat → Bool := anyN fun i => waxB s (px i).toNat (py i).toNat
set_option maxHeartbeats 2000000 in
theorem ckSteps_bad (s : Sh) (D n : Nat) (px py : Nat → Int) (e : ErrE) (w : World) (hn : n ≤ 1048576) (hE : Errs e w) (h2 : w.heap[D]? = some (.cells (vrow (n * 2) (spf px py)) 61)) (hf : s.fit) (k : Int) (ho : okI s = false) : Calls Tryd.prog 34 #[.agg s.row, .slice (some ⟨D, 0, none⟩) n n, .int .i64 k] w fun o w' => o = .returned (errP e 1) ∧ Below w.heap.size w w' := by
  have HC := Go.Lib.hid fun w hE h2 => ckSpots_bad s D n px py e w hn hE h2 ho hf
  have P : Hid ((w.alloc (.cells (vrow 266 s.at) 37)).heap[(w.heap.size)]? = some (.cells (vrow 266 s.at) 37)) := heap_at _ _ _ (by simp)
  have L : Hid ((w.alloc (.cells (vrow 266 s.at) 37)).heap[D]? = some (.cells (vrow (n * 2) (spf px py)) 61)) := heap_past _ _ _ _ (row_lt h2) h2
  have hB : Hid (Below w.heap.size w (w.alloc (.cells (vrow 266 s.at) 37))) := ((Below.refl w.heap.size w).alloc (by simp <;> omega) _)
  have E : Hid (Errs e (w.alloc (.cells (vrow 266 s.at) 37))) := hE.alloc _
  clear h2 hE
  go_enter Tryd.func34, Tryd.ntmps34
  go_wp2_with (first
    | go_skip
    | (with_reducible refine wlAt 8 rfl ?_; refine wpList_loadall rfl 37 (.tmp 3) rfl _ rfl 266 s.at 37 _ Tryd.underlying37 rfl size_sheet P.out ?_)
    | (go_at_call 42; (refine (HC.out _ E.out L.out).mono ?_; rintro o w1 ⟨rfl, hb⟩; replace P := Go.Lib.hid (row_next hb P.out); replace L := Go.Lib.hid (row_next hb L.out); replace hB := Go.Lib.hid (below_next hB.out hb); replace E := Go.Lib.hid (E.out.next hb); clear hb)))
  go_ret
  exact ⟨rfl, hB.out⟩
set_option maxHeartbeats 2000000 in
theorem ckSteps_out (s : Sh) (D n : Nat) (px py : Nat → Int) (e : ErrE) (w : World) (hn : n ≤ 1048576) (hE : Errs e w) (h2 : w.heap[D]? = some (.cells (vrow (n * 2) (spf px py)) 61)) (hf : s.fit) (k : Int) (ho : okI s = true) (hbb : insL s px py n = false) : Calls Tryd.prog 34 #[.agg s.row, .slice (some ⟨D, 0, none⟩) n n, .int .i64 k] w fun o w' => o = .returned (errP e 2) ∧ Below w.heap.size w w' := by
  have HC := Go.Lib.hid fun w hE h2 => ckSpots_any s D n px py e w hn hE h2 ho hf false hbb
  have P : Hid ((w.alloc (.cells (vrow 266 s.at) 37)).heap[(w.heap.size)]? = some (.cells (vrow 266 s.at) 37)) := heap_at _ _ _ (by simp)
  have L : Hid ((w.alloc (.cells (vrow 266 s.at) 37)).heap[D]? = some (.cells (vrow (n * 2) (spf px py)) 61)) := heap_past _ _ _ _ (row_lt h2) h2
  have hB : Hid (Below w.heap.size w (w.alloc (.cells (vrow 266 s.at) 37))) := ((Below.refl w.heap.size w).alloc (by simp <;> omega) _)
  have E : Hid (Errs e (w.alloc (.cells (vrow 266 s.at) 37))) := hE.alloc _
  clear h2 hE
  go_enter Tryd.func34, Tryd.ntmps34
  go_wp2_with (first
    | go_skip
    | (with_reducible refine wlAt 8 rfl ?_; refine wpList_loadall rfl 37 (.tmp 3) rfl _ rfl 266 s.at 37 _ Tryd.underlying37 rfl size_sheet P.out ?_)
    | (go_at_call 42; (refine (HC.out _ E.out L.out).mono ?_; rintro o w1 ⟨rfl, hb⟩; replace P := Go.Lib.hid (row_next hb P.out); replace L := Go.Lib.hid (row_next hb L.out); replace hB := Go.Lib.hid (below_next hB.out hb); replace E := Go.Lib.hid (E.out.next hb); clear hb)))
  go_ret
  exact ⟨rfl, hB.out⟩
set_option maxHeartbeats 2000000 in
theorem ckSteps_neg (s : Sh) (D n : Nat) (px py : Nat → Int) (e : ErrE) (w : World) (hn : n ≤ 1048576) (hE : Errs e w) (h2 : w.heap[D]? = some (.cells (vrow (n * 2) (spf px py)) 61)) (hf : s.fit) (k : Int) (ho : okI s = true) (hbb : insL s px py n = true) (hk : k < 0) : Calls Tryd.prog 34 #[.agg s.row, .slice (some ⟨D, 0, none⟩) n n, .int .i64 k] w fun o w' => o = .returned (errP e 2) ∧ Below w.heap.size w w' := by
  have HC := Go.Lib.hid fun w hE h2 => ckSpots_any s D n px py e w hn hE h2 ho hf true hbb
  have h1 : decide (k < 0) = true := by simpa using hk
  have P : Hid ((w.alloc (.cells (vrow 266 s.at) 37)).heap[(w.heap.size)]? = some (.cells (vrow 266 s.at) 37)) := heap_at _ _ _ (by simp)
  have L : Hid ((w.alloc (.cells (vrow 266 s.at) 37)).heap[D]? = some (.cells (vrow (n * 2) (spf px py)) 61)) := heap_past _ _ _ _ (row_lt h2) h2
  have hB : Hid (Below w.heap.size w (w.alloc (.cells (vrow 266 s.at) 37))) := ((Below.refl w.heap.size w).alloc (by simp <;> omega) _)
  have E : Hid (Errs e (w.alloc (.cells (vrow 266 s.at) 37))) := hE.alloc _
  clear h2 hE
  go_enter Tryd.func34, Tryd.ntmps34
  go_wp2_with (first
    | go_skip
    | (with_reducible refine wlAt 8 rfl ?_; refine wpList_loadall rfl 37 (.tmp 3) rfl _ rfl 266 s.at 37 _ Tryd.underlying37 rfl size_sheet P.out ?_)
    | (go_at_call 42; (refine (HC.out _ E.out L.out).mono ?_; rintro o w1 ⟨rfl, hb⟩; replace P := Go.Lib.hid (row_next hb P.out); replace L := Go.Lib.hid (row_next hb L.out); replace hB := Go.Lib.hid (below_next hB.out hb); replace E := Go.Lib.hid (E.out.next hb); clear hb))
    | (with_reducible refine wlAt 20 rfl ?_; refine wpList_ld1 67 _ rfl (by first | exact want_n rfl | exact want_g _ _ _ rfl rfl rfl) 0 0 rfl 1 (fun _ => errP e 2) _ rw_err E.out.v2 (by omega) ?_))
  go_ret
  exact ⟨rfl, hB.out⟩
set_option maxHeartbeats 2000000 in
theorem ckSteps_big (s : Sh) (D n : Nat) (px py : Nat → Int) (e : ErrE) (w : World) (hn : n ≤ 1048576) (hE : Errs e w) (h2 : w.heap[D]? = some (.cells (vrow (n * 2) (spf px py)) 61)) (hf : s.fit) (k : Int) (ho : okI s = true) (hbb : insL s px py n = true) (hk : 16 < k) : Calls Tryd.prog 34 #[.agg s.row, .slice (some ⟨D, 0, none⟩) n n, .int .i64 k] w fun o w' => o = .returned (errP e 2) ∧ Below w.heap.size w w' := by
  have HC := Go.Lib.hid fun w hE h2 => ckSpots_any s D n px py e w hn hE h2 ho hf true hbb
  have h1 : decide (k < 0) = false := by simp; omega
  have h4 : decide (k > 16) = true := by simpa using hk
  have h3 : decide (16 < k) = true := by simpa using hk
  have P : Hid ((w.alloc (.cells (vrow 266 s.at) 37)).heap[(w.heap.size)]? = some (.cells (vrow 266 s.at) 37)) := heap_at _ _ _ (by simp)
  have L : Hid ((w.alloc (.cells (vrow 266 s.at) 37)).heap[D]? = some (.cells (vrow (n * 2) (spf px py)) 61)) := heap_past _ _ _ _ (row_lt h2) h2
  have hB : Hid (Below w.heap.size w (w.alloc (.cells (vrow 266 s.at) 37))) := ((Below.refl w.heap.size w).alloc (by simp <;> omega) _)
  have E : Hid (Errs e (w.alloc (.cells (vrow 266 s.at) 37))) := hE.alloc _
  clear h2 hE
  go_enter Tryd.func34, Tryd.ntmps34
  go_wp2_with (first
    | go_skip
    | (with_reducible refine wlAt 8 rfl ?_; refine wpList_loadall rfl 37 (.tmp 3) rfl _ rfl 266 s.at 37 _ Tryd.underlying37 rfl size_sheet P.out ?_)
    | (go_at_call 42; (refine (HC.out _ E.out L.out).mono ?_; rintro o w1 ⟨rfl, hb⟩; replace P := Go.Lib.hid (row_next hb P.out); replace L := Go.Lib.hid (row_next hb L.out); replace hB := Go.Lib.hid (below_next hB.out hb); replace E := Go.Lib.hid (E.out.next hb); clear hb))
    | (with_reducible refine wlAt 20 rfl ?_; refine wpList_ld1 67 _ rfl (by first | exact want_n rfl | exact want_g _ _ _ rfl rfl rfl) 0 0 rfl 1 (fun _ => errP e 2) _ rw_err E.out.v2 (by omega) ?_))
  go_ret
  exact ⟨rfl, hB.out⟩
set_option maxHeartbeats 2000000 in
theorem ckSteps_ok (s : Sh) (D n : Nat) (px py : Nat → Int) (e : ErrE) (w : World) (hn : n ≤ 1048576) (hE : Errs e w) (h2 : w.heap[D]? = some (.cells (vrow (n * 2) (spf px py)) 61)) (hf : s.fit) (k : Int) (ho : okI s = true) (hbb : insL s px py n = true) (hk : 0 ≤ k ∧ k ≤ 16) : Calls Tryd.prog 34 #[.agg s.row, .slice (some ⟨D, 0, none⟩) n n, .int .i64 k] w fun o w' => o = .returned .nilIface ∧ Below w.heap.size w w' := by
  have HC := Go.Lib.hid fun w hE h2 => ckSpots_any s D n px py e w hn hE h2 ho hf true hbb
  have h1 : decide (k < 0) = false := by simp; omega
  have h4 : decide (k > 16) = false := by simp; omega
  have h3 : decide (16 < k) = false := by simp; omega
  have P : Hid ((w.alloc (.cells (vrow 266 s.at) 37)).heap[(w.heap.size)]? = some (.cells (vrow 266 s.at) 37)) := heap_at _ _ _ (by simp)
  have L : Hid ((w.alloc (.cells (vrow 266 s.at) 37)).heap[D]? = some (.cells (vrow (n * 2) (spf px py)) 61)) := heap_past _ _ _ _ (row_lt h2) h2
  have hB : Hid (Below w.heap.size w (w.alloc (.cells (vrow 266 s.at) 37))) := ((Below.refl w.heap.size w).alloc (by simp <;> omega) _)
  have E : Hid (Errs e (w.alloc (.cells (vrow 266 s.at) 37))) := hE.alloc _
  clear h2 hE
  go_enter Tryd.func34, Tryd.ntmps34
  go_wp2_with (first
    | go_skip
    | (with_reducible refine wlAt 8 rfl ?_; refine wpList_loadall rfl 37 (.tmp 3) rfl _ rfl 266 s.at 37 _ Tryd.underlying37 rfl size_sheet P.out ?_)
    | (go_at_call 42; (refine (HC.out _ E.out L.out).mono ?_; rintro o w1 ⟨rfl, hb⟩; replace P := Go.Lib.hid (row_next hb P.out); replace L := Go.Lib.hid (row_next hb L.out); replace hB := Go.Lib.hid (below_next hB.out hb); replace E := Go.Lib.hid (E.out.next hb); clear hb)))
  go_ret
  exact ⟨rfl, hB.out⟩
set_option maxHeartbeats 2000000 in
theorem ckUnw_bad (s : Sh) (D n : Nat) (px py : Nat → Int) (e : ErrE) (w : World) (hn : n ≤ 1048576) (hE : Errs e w) (h2 : w.heap[D]? = some (.cells (vrow (n * 2) (spf px py)) 61)) (hf : s.fit) (ho : okI s = false) : Calls Tryd.prog 47 #[.agg s.row, .slice (some ⟨D, 0, none⟩) n n] w fun o w' => o = .returned (errP e 1) ∧ Below w.heap.size w w' := by
  have HC := Go.Lib.hid fun w hE h2 => ckSpots_bad s D n px py e w hn hE h2 ho hf
  have P : Hid ((w.alloc (.cells (vrow 266 s.at) 37)).heap[(w.heap.size)]? = some (.cells (vrow 266 s.at) 37)) := heap_at _ _ _ (by simp)
  have L : Hid ((w.alloc (.cells (vrow 266 s.at) 37)).heap[D]? = some (.cells (vrow (n * 2) (spf px py)) 61)) := heap_past _ _ _ _ (row_lt h2) h2
  have hB : Hid (Below w.heap.size w (w.alloc (.cells (vrow 266 s.at) 37))) := ((Below.refl w.heap.size w).alloc (by simp <;> omega) _)
  have E : Hid (Errs e (w.alloc (.cells (vrow 266 s.at) 37))) := hE.alloc _
  clear h2 hE
  go_enter Tryd.func47, Tryd.ntmps47
  go_wp2_with (first
    | go_skip
    | (with_reducible refine wlAt 6 rfl ?_; refine wpList_loadall rfl 37 (.tmp 2) rfl _ rfl 266 s.at 37 _ Tryd.underlying37 rfl size_sheet P.out ?_)
    | (with_reducible refine wlAt 13 rfl ?_; refine wpList_loadall rfl 37 (.tmp 2) rfl _ rfl 266 s.at 37 _ Tryd.underlying37 rfl size_sheet P.out ?_)
    | (go_at_call 42; (refine (HC.out _ E.out L.out).mono ?_; rintro o w1 ⟨rfl, hb⟩; replace P := Go.Lib.hid (row_next hb P.out); replace L := Go.Lib.hid (row_next hb L.out); replace hB := Go.Lib.hid (below_next hB.out hb); replace E := Go.Lib.hid (E.out.next hb); clear hb)))
  go_ret
  exact ⟨rfl, hB.out⟩
set_option maxHeartbeats 2000000 in
theorem ckUnw_out (s : Sh) (D n : Nat) (px py : Nat → Int) (e : ErrE) (w : World) (hn : n ≤ 1048576) (hE : Errs e w) (h2 : w.heap[D]? = some (.cells (vrow (n * 2) (spf px py)) 61)) (hf : s.fit) (ho : okI s = true) (hbb : insL s px py n = false) : Calls Tryd.prog 47 #[.agg s.row, .slice (some ⟨D, 0, none⟩) n n] w fun o w' => o = .returned (errP e 2) ∧ Below w.heap.size w w' := by
  have HC := Go.Lib.hid fun w hE h2 => ckSpots_any s D n px py e w hn hE h2 ho hf false hbb
  have P : Hid ((w.alloc (.cells (vrow 266 s.at) 37)).heap[(w.heap.size)]? = some (.cells (vrow 266 s.at) 37)) := heap_at _ _ _ (by simp)
  have L : Hid ((w.alloc (.cells (vrow 266 s.at) 37)).heap[D]? = some (.cells (vrow (n * 2) (spf px py)) 61)) := heap_past _ _ _ _ (row_lt h2) h2
  have hB : Hid (Below w.heap.size w (w.alloc (.cells (vrow 266 s.at) 37))) := ((Below.refl w.heap.size w).alloc (by simp <;> omega) _)
  have E : Hid (Errs e (w.alloc (.cells (vrow 266 s.at) 37))) := hE.alloc _
  clear h2 hE
  go_enter Tryd.func47, Tryd.ntmps47
  go_wp2_with (first
    | go_skip
    | (with_reducible refine wlAt 6 rfl ?_; refine wpList_loadall rfl 37 (.tmp 2) rfl _ rfl 266 s.at 37 _ Tryd.underlying37 rfl size_sheet P.out ?_)
    | (with_reducible refine wlAt 13 rfl ?_; refine wpList_loadall rfl 37 (.tmp 2) rfl _ rfl 266 s.at 37 _ Tryd.underlying37 rfl size_sheet P.out ?_)
    | (go_at_call 42; (refine (HC.out _ E.out L.out).mono ?_; rintro o w1 ⟨rfl, hb⟩; replace P := Go.Lib.hid (row_next hb P.out); replace L := Go.Lib.hid (row_next hb L.out); replace hB := Go.Lib.hid (below_next hB.out hb); replace E := Go.Lib.hid (E.out.next hb); clear hb)))
  go_ret
  exact ⟨rfl, hB.out⟩
set_option maxHeartbeats 2000000 in
theorem ckUnw_any (s : Sh) (D n : Nat) (px py : Nat → Int) (e : ErrE) (w : World) (hn : n ≤ 1048576) (hE : Errs e w) (h2 : w.heap[D]? = some (.cells (vrow (n * 2) (spf px py)) 61)) (hf : s.fit) (ho : okI s = true) (hbb : insL s px py n = true) (bw : Bool) (hw : waxL s px py n = bw) : Calls Tryd.prog 47 #[.agg s.row, .slice (some ⟨D, 0, none⟩) n n] w fun o w' => o = .returned (if bw then errP e 4 else .nilIface) ∧ Below w.heap.size w w' := by
  have HC := Go.Lib.hid fun w hE h2 => ckSpots_any s D n px py e w hn hE h2 ho hf true hbb
  have HN : Hid (∀ W, W.heap[D]? = some (.cells (vrow (n * 2) (spf px py)) 61) → Calls Tryd.prog 60 #[.slice (some ⟨D, 0, none⟩) n n, .func (.func 62) #[.agg s.row] #[]] W fun o w' => o = .returned (.bool bw) ∧ Below W.heap.size W w') :=
    Go.Lib.hid fun W h2 => by
      have h3 := coF_any px py n n (some ⟨D, 0, none⟩) (fun i => waxB s (px i).toNat (py i).toNat) 62 #[.agg s.row] #[] W hn (spRow_of h2) (fun _ _ => by kernel_rfl) fun i X hi hX => by
        obtain ⟨x, y, ex, ey, hx, hy⟩ := insL_in8 ho hbb i hi
        rw [ex, ey, Int.toNat_natCast, Int.toNat_natCast]
        exact waxed_any s x y hx hy X
      rw [show anyN (fun i => waxB s (px i).toNat (py i).toNat) n = bw from hw] at h3
      exact h3
  clear hw hbb
  have P : Hid ((w.alloc (.cells (vrow 266 s.at) 37)).heap[(w.heap.size)]? = some (.cells (vrow 266 s.at) 37)) := heap_at _ _ _ (by simp)
  have L : Hid ((w.alloc (.cells (vrow 266 s.at) 37)).heap[D]? = some (.cells (vrow (n * 2) (spf px py)) 61)) := heap_past _ _ _ _ (row_lt h2) h2
  have hB : Hid (Below w.heap.size w (w.alloc (.cells (vrow 266 s.at) 37))) := ((Below.refl w.heap.size w).alloc (by simp <;> omega) _)
  have E : Hid (Errs e (w.alloc (.cells (vrow 266 s.at) 37))) := hE.alloc _
  clear h2 hE
  cases bw
  · go_enter Tryd.func47, Tryd.ntmps47
    go_wp2_with (first
      | go_skip
      | (with_reducible refine wlAt 6 rfl ?_; refine wpList_loadall rfl 37 (.tmp 2) rfl _ rfl 266 s.at 37 _ Tryd.underlying37 rfl size_sheet P.out ?_)
      | (with_reducible refine wlAt 13 rfl ?_; refine wpList_loadall rfl 37 (.tmp 2) rfl _ rfl 266 s.at 37 _ Tryd.underlying37 rfl size_sheet P.out ?_)
      | (go_at_call 42; (refine (HC.out _ E.out L.out).mono ?_; rintro o w1 ⟨rfl, hb⟩; replace P := Go.Lib.hid (row_next hb P.out); replace L := Go.Lib.hid (row_next hb L.out); replace hB := Go.Lib.hid (below_next hB.out hb); replace E := Go.Lib.hid (E.out.next hb); clear hb))
      | (go_at_call 60; (refine (HN.out _ L.out).mono ?_; rintro o w1 ⟨rfl, hb⟩; replace P := Go.Lib.hid (row_next hb P.out); replace L := Go.Lib.hid (row_next hb L.out); replace hB := Go.Lib.hid (below_next hB.out hb); replace E := Go.Lib.hid (E.out.next hb); clear hb))
      | (with_reducible refine wlAt 16 rfl ?_; refine wpList_ld1 67 _ rfl (by first | exact want_n rfl | exact want_g _ _ _ rfl rfl rfl) 3 0 rfl 1 (fun _ => errP e 4) _ rw_err E.out.v4 (by omega) ?_))
    go_ret
    exact ⟨rfl, hB.out⟩
  · go_enter Tryd.func47, Tryd.ntmps47
    go_wp2_with (first
      | go_skip
      | (with_reducible refine wlAt 6 rfl ?_; refine wpList_loadall rfl 37 (.tmp 2) rfl _ rfl 266 s.at 37 _ Tryd.underlying37 rfl size_sheet P.out ?_)
      | (with_reducible refine wlAt 13 rfl ?_; refine wpList_loadall rfl 37 (.tmp 2) rfl _ rfl 266 s.at 37 _ Tryd.underlying37 rfl size_sheet P.out ?_)
      | (go_at_call 42; (refine (HC.out _ E.out L.out).mono ?_; rintro o w1 ⟨rfl, hb⟩; replace P := Go.Lib.hid (row_next hb P.out); replace L := Go.Lib.hid (row_next hb L.out); replace hB := Go.Lib.hid (below_next hB.out hb); replace E := Go.Lib.hid (E.out.next hb); clear hb))
      | (go_at_call 60; (refine (HN.out _ L.out).mono ?_; rintro o w1 ⟨rfl, hb⟩; replace P := Go.Lib.hid (row_next hb P.out); replace L := Go.Lib.hid (row_next hb L.out); replace hB := Go.Lib.hid (below_next hB.out hb); replace E := Go.Lib.hid (E.out.next hb); clear hb))
      | (with_reducible refine wlAt 16 rfl ?_; refine wpList_ld1 67 _ rfl (by first | exact want_n rfl | exact want_g _ _ _ rfl rfl rfl) 3 0 rfl 1 (fun _ => errP e 4) _ rw_err E.out.v4 (by omega) ?_))
    go_ret
    exact ⟨rfl, hB.out⟩
end Go.Proofs.YthienbbecbakjaaDoor
namespace Go.Proofs.YthienbbecbakjaaDoor
open Go.RowKit
set_option maxRecDepth 100000
set_option linter.unusedVariables false
set_option linter.unusedSimpArgs false
/-- the model's inner cells: one with a neighbour beyond goes -/
def minn (s : Sh) (f : Nat → Bool) (l : List Sp8) : Nat → Bool := l.foldl (fun g p => if (nbs s p.1.1 p.1.2 4).any (fun q => !f (pix q)) then setB g (pix p) false else g) f
theorem minn_app (s : Sh) (f : Nat → Bool) (l : List Sp8) (p : Sp8) : minn s f (l ++ [p]) = if (nbs s p.1.1 p.1.2 4).any (fun q => !f (pix q)) then setB (minn s f l) (pix p) false else minn s f l := by unfold minn; rw [List.foldl_append]; rfl
theorem allL_len (f : Nat → Bool) : (allL f).length ≤ 64 := by
  refine Nat.le_trans (fl_len _ _) ?_
  rw [cellsL_length]
  exact Nat.le_refl _
theorem setB_same (g : Nat → Bool) (i : Nat) (v : Bool) : setB (setB g i v) i v = setB g i v := by
  funext j; unfold setB; split <;> rfl
set_option maxHeartbeats 8000000 in
theorem lspr_any (s : Sh) (b bi : Nat) (f : Nat → Bool) (w : World) (hok : okI s = true) (hf : s.fit) (h1 : w.heap[b]? = some (.cells (vrow 266 s.at) 37)) (h2 : w.heap[bi]? = some (.cells (vrow 64 (blf f)) 52)) : Calls Tryd.prog 26 #[.pointer (some ⟨b, 0, none⟩), .pointer (some ⟨bi, 0, none⟩)] w fun e w' => e = .returned (.agg (vrow 64 (blf (mspr s (allL f) f)))) ∧ Below w.heap.size w w' := by
  have HLL := Go.Lib.hid fun w hs => (show Calls Tryd.prog 27 #[.pointer (some ⟨bi, 0, none⟩)] w fun e w' => ∃ v, e = .returned v ∧ Owns w' w.heap.size v (allL f) ∧ Below w.heap.size w w' from llist_any f bi w hs)
  have HBE := Go.Lib.hid fun (x y : Nat) (w : World) hs (hx : x < 8) (hy : y < 8) => beside_any s b x y w hs hf hx hy hok
  have hlen := allL_len f
  generalize allL f = L at *
  have zb := zero_b88
  have n1 := row_lt h1; have n2 := row_lt h2
  have P : Hid (((w.alloc (.cells (vrow 64 (blf fun _ => false)) 52)).alloc (.cells (vrow 64 (blf fun _ => false)) 52)).heap[b]? = some (.cells (vrow 266 s.at) 37)) := heap_past _ _ _ _ (by simp <;> omega) (heap_past _ _ _ _ n1 h1)
  have I : Hid (((w.alloc (.cells (vrow 64 (blf fun _ => false)) 52)).alloc (.cells (vrow 64 (blf fun _ => false)) 52)).heap[bi]? = some (.cells (vrow 64 (blf f)) 52)) := heap_past _ _ _ _ (by simp <;> omega) (heap_past _ _ _ _ n2 h2)
  have Z : Hid (((w.alloc (.cells (vrow 64 (blf fun _ => false)) 52)).alloc (.cells (vrow 64 (blf fun _ => false)) 52)).heap[w.heap.size]? = some (.cells (vrow 64 (blf fun _ => false)) 52)) := heap_past _ _ _ _ (by simp <;> omega) (heap_at _ _ _ (by simp))
  have V : Hid (((w.alloc (.cells (vrow 64 (blf fun _ => false)) 52)).alloc (.cells (vrow 64 (blf fun _ => false)) 52)).heap[w.heap.size + 1]? = some (.cells (vrow 64 (blf fun _ => false)) 52)) := heap_at _ _ _ (by simp)
  have hB : Hid (Below w.heap.size w ((w.alloc (.cells (vrow 64 (blf fun _ => false)) 52)).alloc (.cells (vrow 64 (blf fun _ => false)) 52))) := Go.Lib.hid (((Below.refl w.heap.size w).alloc (by simp <;> omega) _).alloc (by simp <;> omega) _)
  have hI0 : Hid ((w.alloc (.cells (vrow 64 (blf fun _ => false)) 52)).heap[bi]? = some (.cells (vrow 64 (blf f)) 52)) := Go.Lib.hid (heap_past _ _ _ _ n2 h2)
  clear h1 h2 hok hf
  go_enter Tryd.func26, Tryd.ntmps26
  go_wp2_with (first
    | go_skip
    | ((with_reducible refine wlAt 12 rfl ?_); refine wpList_loadall rfl 52 (.tmp 11) rfl bi rfl 64 (blf f) 52 _ Tryd.underlying52 rfl size_b88 hI0.out ?_)
    | ((with_reducible refine wlOp (.store 52 (.tmp 5) (.tmp 12)) rfl ?_); refine wpList_storeall rfl 52 (.tmp 5) (.tmp 12) rfl (w.heap.size + 1) rfl 64 (blf fun _ => false) (blf f) rfl 52 size_b88 V.out (fun i _ => blf_one _ i) ?_; replace P := Go.Lib.hid (row_set' (g := w.heap.size + 1) (by omega) P.out (vrow 64 (blf f))); replace I := Go.Lib.hid (row_set' (g := w.heap.size + 1) (by omega) I.out (vrow 64 (blf f))); replace Z := Go.Lib.hid (row_set' (g := w.heap.size + 1) (by omega) Z.out (vrow 64 (blf f))); replace V := Go.Lib.hid (row_set V.out (vrow 64 (blf f))); replace hB := Go.Lib.hid (Below_setRow hB.out (show w.heap.size ≤ w.heap.size + 1 by omega) (vrow 64 (blf f))))
    | (go_at_call 27; (refine (HLL.out _ I.out).mono ?_); rintro o w1 ⟨v, rfl, hO, hb⟩; have nv1 := row_lt V.out; replace P := Go.Lib.hid (row_next hb P.out); replace I := Go.Lib.hid (row_next hb I.out); replace Z := Go.Lib.hid (row_next hb Z.out); replace V := Go.Lib.hid (row_next hb V.out); replace hB := Go.Lib.hid (below_next hB.out hb); clear hb))
  obtain ⟨ptr, g, cap, fr, rfl, hN⟩ := Owns.any hO
  have hgb : 0 < L.length → w.heap.size + 1 < g := fun h => by have := (hN h).2.1; omega
  have G : 0 < L.length → w1.heap[g]? = some (.cells (vrow (cap * 2) fr) 61) := fun h => (hN h).2.2.2.1
  have HPT := Go.Lib.hid fun h => (hN h).1
  have HCP := Go.Lib.hid fun h => (hN h).2.2.1
  have HF2 := Go.Lib.hid fun h => (hN h).2.2.2.2
  clear hO hN HLL hI0
  have p1 := P.out; have i1 := I.out; have z1 := Z.out; have v1 := V.out; have b1 := hB.out
  clear P I Z V hB
  generalize w1 = wo at p1 i1 z1 v1 b1 G ⊢
  go_loopw [7] (fun kv wr => ∃ k : Nat, k ≤ L.length ∧ kv = .int .i64 k ∧ wr.heap[b]? = some (.cells (vrow 266 s.at) 37) ∧ wr.heap[bi]? = some (.cells (vrow 64 (blf f)) 52) ∧ wr.heap[w.heap.size]? = some (.cells (vrow 64 (blf fun _ => false)) 52) ∧ wr.heap[w.heap.size + 1]? = some (.cells (vrow 64 (blf (mspr s (L.take k) f))) 52) ∧ (0 < L.length → wr.heap[g]? = some (.cells (vrow (cap * 2) fr) 61)) ∧ Below w.heap.size w wr) (fun kv _ => L.length - (intOf kv).toNat)
  case atStart => exact ⟨0, by omega, rfl, p1, i1, z1, by simpa [mspr] using v1, G, b1⟩
  case round =>
    clear p1 i1 z1 v1 b1 G
    obtain ⟨k, hk, rfl, P, I, Z, V, G, hB⟩ := hrel
    by_cases hlt : k < L.length
    · have hkI : (k : Int) < (L.length : Int) := by omega
      have hk0 : (0 : Int) ≤ (k : Int) := by omega
      have hkd : decide ((k : Int) < (L.length : Int)) = true := by simpa using hkI
      have hpos : 0 < L.length := by omega
      have hst : mspr s (L.take (k + 1)) f = setN (nbs s (L[k]'hlt).1.1 (L[k]'hlt).1.2 4) (mspr s (L.take k) f) := by rw [List.take_succ_eq_append_getElem hlt]; exact mspr_app s _ f _
      obtain rfl := HPT.out hpos
      have hcp := HCP.out hpos
      have HFk := HF2.out hpos k hlt
      have G0 := G hpos
      have hgg := hgb hpos
      obtain ⟨⟨⟨x, y⟩, hx, hy⟩, hp⟩ : ∃ p, L[k]'hlt = p := ⟨_, rfl⟩
      rw [hp] at hst HFk
      clear hp
      replace hx : x < 8 := hx
      replace hy : y < 8 := hy
      have HR : Hid (vrow 2 (fun q => fr (k * 2 + q)) = vrow 2 (spAt x y)) := Go.Lib.hid (row_spot fr (k * 2) ⟨(x, y), hx, hy⟩ HFk)
      have HX := Go.Lib.hid (show fr (k * 2) = .int .i8 (x : Int) from HFk.1)
      have HY := Go.Lib.hid (show fr (k * 2 + 1) = .int .i8 (y : Int) from HFk.2)
      clear HFk G
      have hxI : (x : Int) < 8 := by omega
      have hyI : (y : Int) < 8 := by omega
      have hpx : pix ⟨(x, y), hx, hy⟩ = 8 * y + x := rfl
      have hM4 := nbs_len s x y 4
      have HB1 := Go.Lib.hid fun w hs => HBE.out x y w hs hx hy
      change mspr s (L.take (k + 1)) f = setN (nbs s x y 4) (mspr s (L.take k) f) at hst
      generalize nbs s x y 4 = M at *
      generalize (mspr s (L.take k) f) = r at *
      have HST := Go.Lib.hid hst
      clear hst
      replace P := Go.Lib.hid P; replace I := Go.Lib.hid I; replace Z := Go.Lib.hid Z; replace V := Go.Lib.hid V; replace hB := Go.Lib.hid hB
      have G := Go.Lib.hid G0
      clear G0
      go_wp2_with (first
        | go_skip
        | ((with_reducible refine wlAt 25 rfl ?_); refine wpList_loadmid rfl 61 (.tmp 24) rfl g (k * 2) rfl (cap * 2) 2 fr 61 _ Tryd.underlying61 rfl size_spot G.out (by omega) ?_; rw [HR.out])
        | (go_at_call 52; (refine (HB1.out _ P.out).mono ?_); rintro o w2 ⟨v2, rfl, hO, hb⟩; have nv1 := row_lt V.out; have ng1 := row_lt G.out; replace G := Go.Lib.hid (row_next hb G.out); replace P := Go.Lib.hid (row_next hb P.out); replace I := Go.Lib.hid (row_next hb I.out); replace Z := Go.Lib.hid (row_next hb Z.out); replace V := Go.Lib.hid (row_next hb V.out); replace hB := Go.Lib.hid (below_next hB.out hb); clear hb))
      obtain ⟨ptr2, g2, cap2, fr2, rfl, hN⟩ := Owns.any hO
      have hg2 : 0 < M.length → w.heap.size + 1 < g2 := fun h => by have := (hN h).2.1; omega
      have N : 0 < M.length → w2.heap[g2]? = some (.cells (vrow (cap2 * 2) fr2) 61) := fun h => (hN h).2.2.2.1
      have HPT2 := Go.Lib.hid fun h => (hN h).1
      have HCP2 := Go.Lib.hid fun h => (hN h).2.2.1
      have HF3 := Go.Lib.hid fun h => (hN h).2.2.2.2
      clear hO hN
      have p1 := P.out; have i1 := I.out; have z1 := Z.out; have v1 := V.out; have b1 := hB.out; have g1 := G.out
      clear P I Z V hB G
      generalize w2 = wo at p1 i1 z1 v1 b1 g1 N ⊢
      go_loopw [9] (fun jv wr => ∃ j : Nat, j ≤ M.length ∧ jv = .int .i64 j ∧ wr.heap[b]? = some (.cells (vrow 266 s.at) 37) ∧ wr.heap[bi]? = some (.cells (vrow 64 (blf f)) 52) ∧ wr.heap[w.heap.size]? = some (.cells (vrow 64 (blf fun _ => false)) 52) ∧ wr.heap[w.heap.size + 1]? = some (.cells (vrow 64 (blf (setN (M.take j) r))) 52) ∧ wr.heap[g]? = some (.cells (vrow (cap * 2) fr) 61) ∧ (0 < M.length → wr.heap[g2]? = some (.cells (vrow (cap2 * 2) fr2) 61)) ∧ Below w.heap.size w wr) (fun jv _ => M.length - (intOf jv).toNat)
      case atStart => exact ⟨0, by omega, rfl, p1, i1, z1, by simpa [setN] using v1, g1, N, b1⟩
      case round =>
        clear p1 i1 z1 v1 b1 g1 N
        obtain ⟨j, hj, rfl, P, I, Z, V, G, N, hB⟩ := hrel
        by_cases hlj : j < M.length
        · have hjI : (j : Int) < (M.length : Int) := by omega
          have hj0 : (0 : Int) ≤ (j : Int) := by omega
          have hjd : decide ((j : Int) < (M.length : Int)) = true := by simpa using hjI
          have hposM : 0 < M.length := by omega
          obtain rfl := HPT2.out hposM
          have hcp2 := HCP2.out hposM
          have HFj := HF3.out hposM j hlj
          have N0 := N hposM
          have hgg2 := hg2 hposM
          have hst2 : setN (M.take (j + 1)) r = setB (setN (M.take j) r) (pix (M[j]'hlj)) true := by rw [List.take_succ_eq_append_getElem hlj, setN_app]
          obtain ⟨⟨⟨u, t⟩, hu, ht⟩, hp⟩ : ∃ p, M[j]'hlj = p := ⟨_, rfl⟩
          rw [hp] at hst2 HFj
          clear hp
          replace hu : u < 8 := hu
          replace ht : t < 8 := ht
          have HU := Go.Lib.hid (show fr2 (j * 2) = .int .i8 (u : Int) from HFj.1)
          have HT := Go.Lib.hid (show fr2 (j * 2 + 1) = .int .i8 (t : Int) from HFj.2)
          have huI : (u : Int) < 8 := by omega
          have htI : (t : Int) < 8 := by omega
          have hput : pix ⟨(u, t), hu, ht⟩ = 8 * t + u := rfl
          rw [hput] at hst2
          clear HFj N hput
          replace P := Go.Lib.hid P; replace I := Go.Lib.hid I; replace Z := Go.Lib.hid Z; replace V := Go.Lib.hid V; replace G := Go.Lib.hid G; replace hB := Go.Lib.hid hB
          have N := Go.Lib.hid N0
          clear N0
          generalize setN (M.take j) r = r2 at *
          have HS2 := Go.Lib.hid hst2
          clear hst2
          go_wp2
          refine wp_region_still_tail 12 (by kernel_rfl) (by kernel_rfl) ?_
          simp only [List.take_succ_cons, List.take_zero, List.drop_succ_cons, List.drop_zero, World.drew_eq]
          repeat (first
            | (refine wpStill_load1 rfl 22 (.tmp 36) rfl g2 (j * 2 + 1) rfl (cap2 * 2) fr2 _ _ Tryd.underlying22 rfl N.out (by omega) ?_; rw [HT.out]; simp only [Act.put, List.setIfInBounds_toArray, List.set_cons_succ, List.set_cons_zero])
            | (refine wpStill_load1 rfl 22 (.tmp 41) rfl g2 (j * 2) rfl (cap2 * 2) fr2 _ _ Tryd.underlying22 rfl N.out (by omega) ?_; rw [HU.out]; simp only [Act.put, List.setIfInBounds_toArray, List.set_cons_succ, List.set_cons_zero])
            | still_step
            | (refine wpStill_step (fun K hK => ?_); go_simp; simp only [huI, htI, hjI, if_true]; go_simp; refine hK _ ?_; clear hK K))
          refine wpStill_nil ?_
          refine wpList_store1 rfl 4 (.tmp 44) (.const (.bool true)) rfl (w.heap.size + 1) (t * 8 + u) rfl 64 (blf r2) (.bool true) rfl 52 size_bool8 V.out (by omega) rfl ?_
          rw [blf_set, Nat.mul_comm t 8]
          have P2 := row_set' (w := wr.drew) (g := w.heap.size + 1) (by omega) P.out (vrow 64 (blf (setB r2 (8 * t + u) true)))
          have I2 := row_set' (w := wr.drew) (g := w.heap.size + 1) (by omega) I.out (vrow 64 (blf (setB r2 (8 * t + u) true)))
          have Z2 := row_set' (w := wr.drew) (g := w.heap.size + 1) (by omega) Z.out (vrow 64 (blf (setB r2 (8 * t + u) true)))
          have G2 := row_set' (w := wr.drew) (g := w.heap.size + 1) (by omega) G.out (vrow 64 (blf (setB r2 (8 * t + u) true)))
          have N2 := row_set' (w := wr.drew) (g := w.heap.size + 1) (by omega) N.out (vrow 64 (blf (setB r2 (8 * t + u) true)))
          have V2 := row_set (w := wr.drew) V.out (vrow 64 (blf (setB r2 (8 * t + u) true)))
          have hB2 := Below_setRow hB.out.drew (show w.heap.size ≤ w.heap.size + 1 by omega) (vrow 64 (blf (setB r2 (8 * t + u) true)))
          clear P I Z V G N hB
          generalize World.setRow wr.drew _ _ = w9 at P2 I2 Z2 V2 G2 N2 hB2 ⊢
          go_wp2
          go_roundw
          case rel => exact ⟨j + 1, by omega, by go_num, P2, I2, Z2, by rw [HS2.out]; exact V2, G2, fun _ => N2, hB2⟩
          case measure => simp [intOf]; omega
        · obtain rfl : j = M.length := by omega
          have hjd : decide ((M.length : Int) < (M.length : Int)) = false := by simp
          rw [List.take_length] at V
          go_wp2
          go_roundw
          case rel => exact ⟨k + 1, by omega, by go_num, P, I, Z, by rw [HST.out]; exact V, fun _ => G, hB⟩
          case measure => simp [intOf]; omega
    · obtain rfl : k = L.length := by omega
      have hkd : decide ((L.length : Int) < (L.length : Int)) = false := by simp
      rw [List.take_length] at V
      obtain ⟨c, hc⟩ : ∃ c, (mspr s L f) = c := ⟨_, rfl⟩
      rw [hc] at V
      have HC := Go.Lib.hid hc
      clear hc
      replace Z := Go.Lib.hid Z; replace V := Go.Lib.hid V; replace hB := Go.Lib.hid hB
      go_wp2_with (first
        | go_skip
        | ((with_reducible refine wlAt 45 rfl ?_); refine wpList_loadall rfl 52 (.tmp 5) rfl (w.heap.size + 1) rfl 64 (blf c) 52 _ Tryd.underlying52 rfl size_b88 V.out ?_)
        | ((with_reducible refine wlOp (.store 52 (.tmp 4) (.tmp 45)) rfl ?_); refine wpList_storeall rfl 52 (.tmp 4) (.tmp 45) rfl w.heap.size rfl 64 (blf fun _ => false) (blf c) rfl 52 size_b88 Z.out (fun i _ => blf_one _ i) ?_; replace Z := Go.Lib.hid (row_set Z.out (vrow 64 (blf c))); replace hB := Go.Lib.hid (Below_setRow hB.out (Nat.le_refl _) (vrow 64 (blf c)))))
      exact ret_row Tryd.results26 w.heap.size 64 (blf c) 52 _ Tryd.underlying52 rfl size_b88 rfl rfl Z.out ⟨by rw [HC.out], hB.out⟩
set_option maxHeartbeats 8000000 in
theorem linn_any (s : Sh) (b bi : Nat) (f : Nat → Bool) (w : World) (hok : okI s = true) (hf : s.fit) (h1 : w.heap[b]? = some (.cells (vrow 266 s.at) 37)) (h2 : w.heap[bi]? = some (.cells (vrow 64 (blf f)) 52)) : Calls Tryd.prog 41 #[.pointer (some ⟨b, 0, none⟩), .pointer (some ⟨bi, 0, none⟩)] w fun e w' => e = .returned (.agg (vrow 64 (blf (minn s f (allL f))))) ∧ Below w.heap.size w w' := by
  have HLL := Go.Lib.hid fun w hs => (show Calls Tryd.prog 27 #[.pointer (some ⟨bi, 0, none⟩)] w fun e w' => ∃ v, e = .returned v ∧ Owns w' w.heap.size v (allL f) ∧ Below w.heap.size w w' from llist_any f bi w hs)
  have HBE := Go.Lib.hid fun (x y : Nat) (w : World) hs (hx : x < 8) (hy : y < 8) => beside_any s b x y w hs hf hx hy hok
  have hlen := allL_len f
  generalize allL f = L at *
  have zb := zero_b88
  have n1 := row_lt h1; have n2 := row_lt h2
  have P : Hid (((w.alloc (.cells (vrow 64 (blf fun _ => false)) 52)).alloc (.cells (vrow 64 (blf fun _ => false)) 52)).heap[b]? = some (.cells (vrow 266 s.at) 37)) := heap_past _ _ _ _ (by simp <;> omega) (heap_past _ _ _ _ n1 h1)
  have I : Hid (((w.alloc (.cells (vrow 64 (blf fun _ => false)) 52)).alloc (.cells (vrow 64 (blf fun _ => false)) 52)).heap[bi]? = some (.cells (vrow 64 (blf f)) 52)) := heap_past _ _ _ _ (by simp <;> omega) (heap_past _ _ _ _ n2 h2)
  have Z : Hid (((w.alloc (.cells (vrow 64 (blf fun _ => false)) 52)).alloc (.cells (vrow 64 (blf fun _ => false)) 52)).heap[w.heap.size]? = some (.cells (vrow 64 (blf fun _ => false)) 52)) := heap_past _ _ _ _ (by simp <;> omega) (heap_at _ _ _ (by simp))
  have V : Hid (((w.alloc (.cells (vrow 64 (blf fun _ => false)) 52)).alloc (.cells (vrow 64 (blf fun _ => false)) 52)).heap[w.heap.size + 1]? = some (.cells (vrow 64 (blf fun _ => false)) 52)) := heap_at _ _ _ (by simp)
  have hB : Hid (Below w.heap.size w ((w.alloc (.cells (vrow 64 (blf fun _ => false)) 52)).alloc (.cells (vrow 64 (blf fun _ => false)) 52))) := Go.Lib.hid (((Below.refl w.heap.size w).alloc (by simp <;> omega) _).alloc (by simp <;> omega) _)
  have hI0 : Hid ((w.alloc (.cells (vrow 64 (blf fun _ => false)) 52)).heap[bi]? = some (.cells (vrow 64 (blf f)) 52)) := Go.Lib.hid (heap_past _ _ _ _ n2 h2)
  clear h1 h2 hok hf
  go_enter Tryd.func41, Tryd.ntmps41
  go_wp2_with (first
    | go_skip
    | ((with_reducible refine wlAt 12 rfl ?_); refine wpList_loadall rfl 52 (.tmp 11) rfl bi rfl 64 (blf f) 52 _ Tryd.underlying52 rfl size_b88 hI0.out ?_)
    | ((with_reducible refine wlOp (.store 52 (.tmp 5) (.tmp 12)) rfl ?_); refine wpList_storeall rfl 52 (.tmp 5) (.tmp 12) rfl (w.heap.size + 1) rfl 64 (blf fun _ => false) (blf f) rfl 52 size_b88 V.out (fun i _ => blf_one _ i) ?_; replace P := Go.Lib.hid (row_set' (g := w.heap.size + 1) (by omega) P.out (vrow 64 (blf f))); replace I := Go.Lib.hid (row_set' (g := w.heap.size + 1) (by omega) I.out (vrow 64 (blf f))); replace Z := Go.Lib.hid (row_set' (g := w.heap.size + 1) (by omega) Z.out (vrow 64 (blf f))); replace V := Go.Lib.hid (row_set V.out (vrow 64 (blf f))); replace hB := Go.Lib.hid (Below_setRow hB.out (show w.heap.size ≤ w.heap.size + 1 by omega) (vrow 64 (blf f))))
    | (go_at_call 27; (refine (HLL.out _ I.out).mono ?_); rintro o w1 ⟨v, rfl, hO, hb⟩; have nv1 := row_lt V.out; replace P := Go.Lib.hid (row_next hb P.out); replace I := Go.Lib.hid (row_next hb I.out); replace Z := Go.Lib.hid (row_next hb Z.out); replace V := Go.Lib.hid (row_next hb V.out); replace hB := Go.Lib.hid (below_next hB.out hb); clear hb))
  obtain ⟨ptr, g, cap, fr, rfl, hN⟩ := Owns.any hO
  have hgb : 0 < L.length → w.heap.size + 1 < g := fun h => by have := (hN h).2.1; omega
  have G : 0 < L.length → w1.heap[g]? = some (.cells (vrow (cap * 2) fr) 61) := fun h => (hN h).2.2.2.1
  have HPT := Go.Lib.hid fun h => (hN h).1
  have HCP := Go.Lib.hid fun h => (hN h).2.2.1
  have HF2 := Go.Lib.hid fun h => (hN h).2.2.2.2
  clear hO hN HLL hI0
  have p1 := P.out; have i1 := I.out; have z1 := Z.out; have v1 := V.out; have b1 := hB.out
  clear P I Z V hB
  generalize w1 = wo at p1 i1 z1 v1 b1 G ⊢
  go_loopw [7] (fun kv wr => ∃ k : Nat, k ≤ L.length ∧ kv = .int .i64 k ∧ wr.heap[b]? = some (.cells (vrow 266 s.at) 37) ∧ wr.heap[bi]? = some (.cells (vrow 64 (blf f)) 52) ∧ wr.heap[w.heap.size]? = some (.cells (vrow 64 (blf fun _ => false)) 52) ∧ wr.heap[w.heap.size + 1]? = some (.cells (vrow 64 (blf (minn s f (L.take k)))) 52) ∧ (0 < L.length → wr.heap[g]? = some (.cells (vrow (cap * 2) fr) 61)) ∧ Below w.heap.size w wr) (fun kv _ => L.length - (intOf kv).toNat)
  case atStart => exact ⟨0, by omega, rfl, p1, i1, z1, by simpa [minn] using v1, G, b1⟩
  case round =>
    clear p1 i1 z1 v1 b1 G
    obtain ⟨k, hk, rfl, P, I, Z, V, G, hB⟩ := hrel
    by_cases hlt : k < L.length
    · have hkI : (k : Int) < (L.length : Int) := by omega
      have hk0 : (0 : Int) ≤ (k : Int) := by omega
      have hkd : decide ((k : Int) < (L.length : Int)) = true := by simpa using hkI
      have hpos : 0 < L.length := by omega
      have hst : minn s f (L.take (k + 1)) = if (nbs s (L[k]'hlt).1.1 (L[k]'hlt).1.2 4).any (fun q => !f (pix q)) then setB (minn s f (L.take k)) (pix (L[k]'hlt)) false else minn s f (L.take k) := by rw [List.take_succ_eq_append_getElem hlt]; exact minn_app s f _ _
      obtain rfl := HPT.out hpos
      have hcp := HCP.out hpos
      have HFk := HF2.out hpos k hlt
      have G0 := G hpos
      have hgg := hgb hpos
      obtain ⟨⟨⟨x, y⟩, hx, hy⟩, hp⟩ : ∃ p, L[k]'hlt = p := ⟨_, rfl⟩
      rw [hp] at hst HFk
      clear hp
      replace hx : x < 8 := hx
      replace hy : y < 8 := hy
      have HR : Hid (vrow 2 (fun q => fr (k * 2 + q)) = vrow 2 (spAt x y)) := Go.Lib.hid (row_spot fr (k * 2) ⟨(x, y), hx, hy⟩ HFk)
      have HX := Go.Lib.hid (show fr (k * 2) = .int .i8 (x : Int) from HFk.1)
      have HY := Go.Lib.hid (show fr (k * 2 + 1) = .int .i8 (y : Int) from HFk.2)
      clear HFk G
      have hxI : (x : Int) < 8 := by omega
      have hyI : (y : Int) < 8 := by omega
      have hpx : pix ⟨(x, y), hx, hy⟩ = 8 * y + x := rfl
      have hM4 := nbs_len s x y 4
      have HB1 := Go.Lib.hid fun w hs => HBE.out x y w hs hx hy
      change minn s f (L.take (k + 1)) = if (nbs s x y 4).any (fun q => !f (pix q)) then setB (minn s f (L.take k)) (8 * y + x) false else minn s f (L.take k) at hst
      generalize nbs s x y 4 = M at *
      generalize (minn s f (L.take k)) = r at *
      have HST := Go.Lib.hid hst
      clear hst
      replace P := Go.Lib.hid P; replace I := Go.Lib.hid I; replace Z := Go.Lib.hid Z; replace V := Go.Lib.hid V; replace hB := Go.Lib.hid hB
      have G := Go.Lib.hid G0
      clear G0
      go_wp2_with (first
        | go_skip
        | ((with_reducible refine wlAt 25 rfl ?_); refine wpList_loadmid rfl 61 (.tmp 24) rfl g (k * 2) rfl (cap * 2) 2 fr 61 _ Tryd.underlying61 rfl size_spot G.out (by omega) ?_; rw [HR.out])
        | (go_at_call 52; (refine (HB1.out _ P.out).mono ?_); rintro o w2 ⟨v2, rfl, hO, hb⟩; have nv1 := row_lt V.out; have ng1 := row_lt G.out; replace G := Go.Lib.hid (row_next hb G.out); replace P := Go.Lib.hid (row_next hb P.out); replace I := Go.Lib.hid (row_next hb I.out); replace Z := Go.Lib.hid (row_next hb Z.out); replace V := Go.Lib.hid (row_next hb V.out); replace hB := Go.Lib.hid (below_next hB.out hb); clear hb))
      obtain ⟨ptr2, g2, cap2, fr2, rfl, hN⟩ := Owns.any hO
      have hg2 : 0 < M.length → w.heap.size + 1 < g2 := fun h => by have := (hN h).2.1; omega
      have N : 0 < M.length → w2.heap[g2]? = some (.cells (vrow (cap2 * 2) fr2) 61) := fun h => (hN h).2.2.2.1
      have HPT2 := Go.Lib.hid fun h => (hN h).1
      have HCP2 := Go.Lib.hid fun h => (hN h).2.2.1
      have HF3 := Go.Lib.hid fun h => (hN h).2.2.2.2
      clear hO hN
      have p1 := P.out; have i1 := I.out; have z1 := Z.out; have v1 := V.out; have b1 := hB.out; have g1 := G.out
      clear P I Z V hB G
      generalize w2 = wo at p1 i1 z1 v1 b1 g1 N ⊢
      go_loopw [9] (fun jv wr => ∃ j : Nat, j ≤ M.length ∧ jv = .int .i64 j ∧ wr.heap[b]? = some (.cells (vrow 266 s.at) 37) ∧ wr.heap[bi]? = some (.cells (vrow 64 (blf f)) 52) ∧ wr.heap[w.heap.size]? = some (.cells (vrow 64 (blf fun _ => false)) 52) ∧ wr.heap[w.heap.size + 1]? = some (.cells (vrow 64 (blf (if (M.take j).any (fun q => !f (pix q)) then setB r (8 * y + x) false else r))) 52) ∧ wr.heap[g]? = some (.cells (vrow (cap * 2) fr) 61) ∧ (0 < M.length → wr.heap[g2]? = some (.cells (vrow (cap2 * 2) fr2) 61)) ∧ Below w.heap.size w wr) (fun jv _ => M.length - (intOf jv).toNat)
      case atStart => exact ⟨0, by omega, rfl, p1, i1, z1, by simpa [List.any_nil] using v1, g1, N, b1⟩
      case round =>
        clear p1 i1 z1 v1 b1 g1 N
        obtain ⟨j, hj, rfl, P, I, Z, V, G, N, hB⟩ := hrel
        by_cases hlj : j < M.length
        · have hjI : (j : Int) < (M.length : Int) := by omega
          have hj0 : (0 : Int) ≤ (j : Int) := by omega
          have hjd : decide ((j : Int) < (M.length : Int)) = true := by simpa using hjI
          have hposM : 0 < M.length := by omega
          obtain rfl := HPT2.out hposM
          have hcp2 := HCP2.out hposM
          have HFj := HF3.out hposM j hlj
          have N0 := N hposM
          have hgg2 := hg2 hposM
          have hst2 : (M.take (j + 1)).any (fun q => !f (pix q)) = ((M.take j).any (fun q => !f (pix q)) || !f (pix (M[j]'hlj))) := by rw [List.take_succ_eq_append_getElem hlj, List.any_append]; simp
          obtain ⟨⟨⟨u, t⟩, hu, ht⟩, hp⟩ : ∃ p, M[j]'hlj = p := ⟨_, rfl⟩
          rw [hp] at hst2 HFj
          clear hp
          replace hu : u < 8 := hu
          replace ht : t < 8 := ht
          have HU := Go.Lib.hid (show fr2 (j * 2) = .int .i8 (u : Int) from HFj.1)
          have HT := Go.Lib.hid (show fr2 (j * 2 + 1) = .int .i8 (t : Int) from HFj.2)
          have huI : (u : Int) < 8 := by omega
          have htI : (t : Int) < 8 := by omega
          have hput : pix ⟨(u, t), hu, ht⟩ = 8 * t + u := rfl
          rw [hput] at hst2
          clear HFj N hput
          replace P := Go.Lib.hid P; replace I := Go.Lib.hid I; replace Z := Go.Lib.hid Z; replace V := Go.Lib.hid V; replace G := Go.Lib.hid G; replace hB := Go.Lib.hid hB
          have N := Go.Lib.hid N0
          clear N0
          have BF0 := blf_at f u t
          generalize f (8 * t + u) = fv at *
          have BF := Go.Lib.hid BF0; have HS2 := Go.Lib.hid hst2
          clear BF0 hst2
          go_wp2
          refine wp_region_still_lit (by kernel_rfl) (by kernel_rfl) ?_
          simp only [World.drew_eq]
          repeat (first
            | (refine wpStill_load1 rfl 22 (.tmp 37) rfl g2 (j * 2 + 1) rfl (cap2 * 2) fr2 _ _ Tryd.underlying22 rfl N.out (by omega) ?_; rw [HT.out]; simp only [Act.put, List.setIfInBounds_toArray, List.set_cons_succ, List.set_cons_zero])
            | (refine wpStill_load1 rfl 22 (.tmp 42) rfl g2 (j * 2) rfl (cap2 * 2) fr2 _ _ Tryd.underlying22 rfl N.out (by omega) ?_; rw [HU.out]; simp only [Act.put, List.setIfInBounds_toArray, List.set_cons_succ, List.set_cons_zero])
            | (refine wpStill_load1 rfl 4 (.tmp 46) rfl bi (t * 8 + u) rfl 64 (blf f) _ _ Tryd.underlying4 rfl I.out (by omega) ?_; rw [BF.out]; simp only [Act.put, List.setIfInBounds_toArray, List.set_cons_succ, List.set_cons_zero])
            | still_step
            | (refine wpStill_step (fun K hK => ?_); go_simp; simp only [huI, htI, hjI, if_true]; go_simp; refine hK _ ?_; clear hK K))
          refine wpStill_nil ?_
          have P3 := drew_row P.out; have I3 := drew_row I.out; have Z3 := drew_row Z.out; have V3 := drew_row V.out; have G3 := drew_row G.out; have N3 := drew_row N.out; have hB3 := hB.out.drew
          clear P I Z V G N hB
          generalize World.drew wr = w8 at P3 I3 Z3 V3 G3 N3 hB3 ⊢
          generalize (M.take j).any (fun q => !f (pix q)) = an at *
          cases fv
          · have P := Go.Lib.hid P3; have I := Go.Lib.hid I3; have Z := Go.Lib.hid Z3; have V := Go.Lib.hid V3; have G := Go.Lib.hid G3; have N := Go.Lib.hid N3; have hB := Go.Lib.hid hB3
            clear P3 I3 Z3 V3 G3 N3 hB3
            obtain ⟨r2, hr2⟩ : ∃ r2, (if an = true then setB r (8 * y + x) false else r) = r2 := ⟨_, rfl⟩
            have V0 := V.out
            rw [hr2] at V0
            replace V := Go.Lib.hid V0
            have hr3 : setB r2 (8 * y + x) false = setB r (8 * y + x) false := by
              rw [← hr2]; split
              · exact setB_same _ _ _
              · rfl
            have HR3 := Go.Lib.hid hr3
            clear hr2 hr3 V0
            go_wp2
            refine wp_region_still_tail 12 (by kernel_rfl) (by kernel_rfl) ?_
            simp only [List.take_succ_cons, List.take_zero, List.drop_succ_cons, List.drop_zero, World.drew_eq]
            repeat (first
              | (refine wpStill_load1 rfl 22 (.tmp 52) rfl g (k * 2 + 1) rfl (cap * 2) fr _ _ Tryd.underlying22 rfl G.out (by omega) ?_; rw [HY.out]; simp only [Act.put, List.setIfInBounds_toArray, List.set_cons_succ, List.set_cons_zero])
              | (refine wpStill_load1 rfl 22 (.tmp 57) rfl g (k * 2) rfl (cap * 2) fr _ _ Tryd.underlying22 rfl G.out (by omega) ?_; rw [HX.out]; simp only [Act.put, List.setIfInBounds_toArray, List.set_cons_succ, List.set_cons_zero])
              | still_step
              | (refine wpStill_step (fun K hK => ?_); go_simp; simp only [hxI, hyI, hkI, if_true]; go_simp; refine hK _ ?_; clear hK K))
            refine wpStill_nil ?_
            refine wpList_store1 rfl 4 (.tmp 60) (.const (.bool false)) rfl (w.heap.size + 1) (y * 8 + x) rfl 64 (blf r2) (.bool false) rfl 52 size_bool8 V.out (by omega) rfl ?_
            rw [blf_set, Nat.mul_comm y 8]
            have P2 := row_set' (w := w8.drew) (g := w.heap.size + 1) (by omega) P.out (vrow 64 (blf (setB r2 (8 * y + x) false)))
            have I2 := row_set' (w := w8.drew) (g := w.heap.size + 1) (by omega) I.out (vrow 64 (blf (setB r2 (8 * y + x) false)))
            have Z2 := row_set' (w := w8.drew) (g := w.heap.size + 1) (by omega) Z.out (vrow 64 (blf (setB r2 (8 * y + x) false)))
            have G2 := row_set' (w := w8.drew) (g := w.heap.size + 1) (by omega) G.out (vrow 64 (blf (setB r2 (8 * y + x) false)))
            have N2 := row_set' (w := w8.drew) (g := w.heap.size + 1) (by omega) N.out (vrow 64 (blf (setB r2 (8 * y + x) false)))
            have V2 := row_set (w := w8.drew) V.out (vrow 64 (blf (setB r2 (8 * y + x) false)))
            have hB2 := Below_setRow hB.out.drew (show w.heap.size ≤ w.heap.size + 1 by omega) (vrow 64 (blf (setB r2 (8 * y + x) false)))
            clear P I Z V G N hB
            generalize World.setRow w8.drew _ _ = w9 at P2 I2 Z2 V2 G2 N2 hB2 ⊢
            go_wp2
            go_roundw
            case rel => exact ⟨j + 1, by omega, by go_num, P2, I2, Z2, by rw [HS2.out, Bool.not_false, Bool.or_true, if_pos rfl, ← HR3.out]; exact V2, G2, fun _ => N2, hB2⟩
            case measure => simp [intOf]; omega
          · go_wp2
            go_roundw
            case rel => exact ⟨j + 1, by omega, by go_num, P3, I3, Z3, by rw [HS2.out, Bool.not_true, Bool.or_false]; exact V3, G3, fun _ => N3, hB3⟩
            case measure => simp [intOf]; omega
        · obtain rfl : j = M.length := by omega
          have hjd : decide ((M.length : Int) < (M.length : Int)) = false := by simp
          rw [List.take_length] at V
          go_wp2
          go_roundw
          case rel => exact ⟨k + 1, by omega, by go_num, P, I, Z, by rw [HST.out]; exact V, fun _ => G, hB⟩
          case measure => simp [intOf]; omega
    · obtain rfl : k = L.length := by omega
      have hkd : decide ((L.length : Int) < (L.length : Int)) = false := by simp
      rw [List.take_length] at V
      obtain ⟨c, hc⟩ : ∃ c, (minn s f L) = c := ⟨_, rfl⟩
      rw [hc] at V
      have HC := Go.Lib.hid hc
      clear hc
      replace Z := Go.Lib.hid Z; replace V := Go.Lib.hid V; replace hB := Go.Lib.hid hB
      go_wp2_with (first
        | go_skip
        | ((with_reducible refine wlAt 61 rfl ?_); refine wpList_loadall rfl 52 (.tmp 5) rfl (w.heap.size + 1) rfl 64 (blf c) 52 _ Tryd.underlying52 rfl size_b88 V.out ?_)
        | ((with_reducible refine wlOp (.store 52 (.tmp 4) (.tmp 61)) rfl ?_); refine wpList_storeall rfl 52 (.tmp 4) (.tmp 61) rfl w.heap.size rfl 64 (blf fun _ => false) (blf c) rfl 52 size_b88 Z.out (fun i _ => blf_one _ i) ?_; replace Z := Go.Lib.hid (row_set Z.out (vrow 64 (blf c))); replace hB := Go.Lib.hid (Below_setRow hB.out (Nat.le_refl _) (vrow 64 (blf c)))))
      exact ret_row Tryd.results41 w.heap.size 64 (blf c) 52 _ Tryd.underlying52 rfl size_b88 rfl rfl Z.out ⟨by rw [HC.out], hB.out⟩
end Go.Proofs.YthienbbecbakjaaDoor
namespace Go.Proofs.YthienbbecbakjaaDoor
open Go.RowKit
set_option maxRecDepth 100000
set_option linter.unusedVariables false
set_option linter.unusedSimpArgs false
/-- two sets that hold the same cells -/
def agr (f g : Nat → Bool) : Prop := ∀ i, i < 64 → f i = g i
theorem agr_row {f g : Nat → Bool} (h : agr f g) : vrow 64 (blf f) = vrow 64 (blf g) := vrow_ext _ _ _ fun i hi => by unfold blf; rw [h i hi]
theorem inFree_agr {s : Sh} {f g : Nat → Bool} (h : agr f g) (hg : inFree s g) : inFree s f := fun p hp => hg p (by rw [← h _ (pix_lt p)]; exact hp)
theorem sprP_agr {s : Sh} {f g : Nat → Bool} (h : agr f g) : sprP s f = sprP s g := by
  funext p
  unfold sprP
  rw [h _ (pix_lt p)]
  congr 1
  congr 1
  funext q
  exact h _ (pix_lt q)
theorem innP_agr {s : Sh} {f g : Nat → Bool} (h : agr f g) : innP s f = innP s g := by
  funext p
  unfold innP
  rw [h _ (pix_lt p)]
  congr 3
  funext q
  rw [h _ (pix_lt q)]
theorem free_pix {s : Sh} {a c : Nat} (ha : a ≤ 8) (hc : c ≤ 8) : ((dryL s (cellsL a c)).map pix).Nodup := (List.filter_sublist.map pix).nodup (cellsL_pix a c ha hc)
theorem plA_agr {s : Sh} {a c : Nat} (ha : a ≤ 8) (hc : c ≤ 8) (pb : Sp8 → Bool) : agr (plA (dryL s (cellsL a c)) pb) (plF (dryL s (cellsL a c)) pb) := fun i _ => plA_plF _ pb (free_pix ha hc) i
theorem plA_free {s : Sh} {a c : Nat} (ea : s.wide = a) (ec : s.high = c) (ha : a ≤ 8) (hc : c ≤ 8) (pb : Sp8 → Bool) : inFree s (plA (dryL s (cellsL a c)) pb) := inFree_agr (plA_agr ha hc pb) (spr_free ea ec ha hc pb)
theorem agr_tt {f g : Nat → Bool} {i : Nat} (h : f i = true ↔ g i = true) : f i = g i := by rw [Bool.eq_iff_iff]; exact h
theorem mkA_val {px py : Nat → Int} : ∀ (n : Nat) (i : Nat), mkA px py n i = true ↔ ∃ k, k < n ∧ i = 8 * (py k).toNat + (px k).toNat
  | 0, i => by simp [mkA]
  | n + 1, i => by
    show setB (mkA px py n) (8 * (py n).toNat + (px n).toNat) true i = true ↔ _
    unfold setB
    split
    · rename_i h
      exact ⟨fun _ => ⟨n, by omega, h⟩, fun _ => rfl⟩
    · rename_i h
      rw [mkA_val n i]
      constructor
      · rintro ⟨k, hk, e⟩; exact ⟨k, by omega, e⟩
      · rintro ⟨k, hk, e⟩
        refine ⟨k, ?_, e⟩
        rcases Nat.lt_or_ge k n with h1 | h1
        · exact h1
        · have : k = n := by omega
          rw [this] at e; exact absurd e h
theorem mkS_val {s : Sh} {px py : Nat → Int} : ∀ (n : Nat) (i : Nat), mkS s px py n i = true ↔ ∃ k, k < n ∧ i = 8 * (py k).toNat + (px k).toNat ∧ waxB s (px k).toNat (py k).toNat = false
  | 0, i => by simp [mkS]
  | n + 1, i => by
    show (if waxB s (px n).toNat (py n).toNat then mkS s px py n else setB (mkS s px py n) (8 * (py n).toNat + (px n).toNat) true) i = true ↔ _
    have old : (∃ k, k < n ∧ i = 8 * (py k).toNat + (px k).toNat ∧ waxB s (px k).toNat (py k).toNat = false) → ∃ k, k < n + 1 ∧ i = 8 * (py k).toNat + (px k).toNat ∧ waxB s (px k).toNat (py k).toNat = false := by
      rintro ⟨k, hk, e⟩; exact ⟨k, by omega, e⟩
    cases hw : waxB s (px n).toNat (py n).toNat
    · rw [if_neg (by simp)]
      unfold setB
      split
      · rename_i h
        exact ⟨fun _ => ⟨n, by omega, h, hw⟩, fun _ => rfl⟩
      · rename_i h
        rw [mkS_val n i]
        refine ⟨old, ?_⟩
        rintro ⟨k, hk, e, e2⟩
        refine ⟨k, ?_, e, e2⟩
        rcases Nat.lt_or_ge k n with h1 | h1
        · exact h1
        · have : k = n := by omega
          rw [this] at e; exact absurd e h
    · rw [if_pos rfl, mkS_val n i]
      refine ⟨old, ?_⟩
      rintro ⟨k, hk, e, e2⟩
      refine ⟨k, ?_, e, e2⟩
      rcases Nat.lt_or_ge k n with h1 | h1
      · exact h1
      · have : k = n := by omega
        rw [this, hw] at e2; cases e2
/-- the model's set of a list is the program's -/
theorem set_eq {s : Sh} {a c : Nat} (hok : okI s = true) (ea : s.wide = a) (ec : s.high = c) (ha : a ≤ 8) (hc : c ≤ 8) {px py : Nat → Int} {n : Nat} (hin : insL s px py n = true) : agr (mkS s px py n) (plA (dryL s (cellsL a c)) fun p => mkA px py n (pix p)) := fun i hi => by
  rw [plA_agr ha hc _ i hi]
  refine agr_tt ?_
  rw [mkS_val, plF_mem]
  constructor
  · rintro ⟨k, hk, rfl, hw⟩
    obtain ⟨x, y, ex, ey, hx, hy⟩ := insL_in8 hok hin k hk
    have hh := insL_all n hin k hk
    rw [ex, ey, Int.toNat_natCast, Int.toNat_natCast] at hw
    rw [ex, ey] at hh
    rw [ex, ey, Int.toNat_natCast, Int.toNat_natCast]
    refine ⟨⟨(x, y), hx, hy⟩, (frL_mem ea ec ha hc _).2 ?_, rfl, (mkA_val n _).2 ⟨k, hk, ?_⟩⟩
    · unfold freeB; simp only [Int.toNat_natCast]; rw [hh, hw]; rfl
    · rw [ex, ey, Int.toNat_natCast, Int.toNat_natCast]; rfl
  · rintro ⟨p, hp, rfl, hm⟩
    obtain ⟨k, hk, e⟩ := (mkA_val n _).1 hm
    refine ⟨k, hk, e, ?_⟩
    have hf := (frL_mem ea ec ha hc p).1 hp
    obtain ⟨x, y, ex, ey, hx, hy⟩ := insL_in8 hok hin k hk
    rw [ex, ey, Int.toNat_natCast, Int.toNat_natCast] at e ⊢
    have hpx := p.2.1; have hpy := p.2.2
    unfold pix at e
    have e1 : p.1.1 = x := by omega
    have e2 : p.1.2 = y := by omega
    unfold freeB at hf
    rw [Bool.and_eq_true, Int.toNat_natCast, Int.toNat_natCast, e1, e2] at hf
    simpa using hf.2
/-- the model's set behind so many spreads -/
def itM (s : Sh) (f : Nat → Bool) : Nat → Nat → Bool
  | 0 => f
  | k + 1 => mspr s (allL (itM s f k)) (itM s f k)
theorem it_eq {s : Sh} {a c : Nat} (hok : okI s = true) (ea : s.wide = a) (ec : s.high = c) (ha : a ≤ 8) (hc : c ≤ 8) {f g : Nat → Bool} (h : agr f (plA (dryL s (cellsL a c)) fun p => g (pix p))) : ∀ k, agr (itM s f k) (sprI s (dryL s (cellsL a c)) g k) ∧ inFree s (itM s f k)
  | 0 => ⟨h, inFree_agr h (plA_free ea ec ha hc _)⟩
  | k + 1 => by
    obtain ⟨h1, h2⟩ := it_eq hok ea ec ha hc h k
    have h3 : agr (itM s f (k + 1)) (sprI s (dryL s (cellsL a c)) g (k + 1)) := fun i hi => by
      show mspr s (allL (itM s f k)) (itM s f k) i = plA (dryL s (cellsL a c)) (sprP s (sprI s (dryL s (cellsL a c)) g k)) i
      rw [spr_eq hok ea ec ha hc h2 i hi, plA_agr ha hc _ i hi, sprP_agr h1]
    exact ⟨h3, inFree_agr h3 (plA_free ea ec ha hc _)⟩
theorem minn_val (s : Sh) (f : Nat → Bool) : ∀ (l : List Sp8) (g : Nat → Bool) (i : Nat), l.foldl (fun g p => if (nbs s p.1.1 p.1.2 4).any (fun q => !f (pix q)) then setB g (pix p) false else g) g i = true ↔ (g i = true ∧ ¬∃ p ∈ l, pix p = i ∧ ((nbs s p.1.1 p.1.2 4).any fun q => !f (pix q)) = true)
  | [], g, i => by simp
  | p :: l, g, i => by
    rw [List.foldl_cons, minn_val s f l]
    cases hb : (nbs s p.1.1 p.1.2 4).any fun q => !f (pix q)
    · rw [if_neg (by simp)]
      refine and_congr_right fun _ => not_congr ⟨?_, ?_⟩
      · rintro ⟨r, hr, h⟩; exact ⟨r, List.mem_cons_of_mem _ hr, h⟩
      · rintro ⟨r, hr, h1, h2⟩
        rcases List.mem_cons.1 hr with rfl | hr
        · rw [hb] at h2; cases h2
        · exact ⟨r, hr, h1, h2⟩
    · rw [if_pos rfl]
      unfold setB
      constructor
      · rintro ⟨h1, h2⟩
        by_cases hi : i = pix p
        · rw [if_pos hi] at h1; cases h1
        · rw [if_neg hi] at h1
          refine ⟨h1, ?_⟩
          rintro ⟨r, hr, h3, h4⟩
          rcases List.mem_cons.1 hr with rfl | hr
          · exact hi h3.symm
          · exact h2 ⟨r, hr, h3, h4⟩
      · rintro ⟨h1, h2⟩
        have hi : i ≠ pix p := fun h => h2 ⟨p, List.mem_cons_self, h.symm, hb⟩
        rw [if_neg hi]
        refine ⟨h1, ?_⟩
        rintro ⟨r, hr, h⟩
        exact h2 ⟨r, List.mem_cons_of_mem _ hr, h⟩
/-- the model's inner cells are the program's -/
theorem inn_eq {s : Sh} {a c : Nat} (ea : s.wide = a) (ec : s.high = c) (ha : a ≤ 8) (hc : c ≤ 8) {f g : Nat → Bool} (hf : inFree s f) (h : agr f g) : agr (minn s f (allL f)) (plA (dryL s (cellsL a c)) (innP s g)) := fun i hi => by
  rw [plA_agr ha hc _ i hi, ← innP_agr h]
  refine agr_tt ?_
  show minn s f (allL f) i = true ↔ _
  unfold minn
  rw [minn_val, plF_mem]
  constructor
  · rintro ⟨h1, h2⟩
    obtain ⟨p, rfl⟩ := ix_sp i hi
    refine ⟨p, (frL_mem ea ec ha hc p).2 (hf p h1), rfl, ?_⟩
    unfold innP
    rw [h1, Bool.true_and, Bool.not_eq_true']
    cases hb : (nbs s p.1.1 p.1.2 4).any fun q => !f (pix q)
    · rfl
    · exact absurd ⟨p, (allL_mem f p).2 h1, rfl, hb⟩ h2
  · rintro ⟨p, hp, rfl, hq⟩
    unfold innP at hq
    rw [Bool.and_eq_true, Bool.not_eq_true'] at hq
    refine ⟨hq.1, ?_⟩
    rintro ⟨r, hr, h3, h4⟩
    rw [pix_inj h3, hq.2] at h4
    cases h4
/-- the cells of a set of free cells: all lie in the sheet -/
theorem allL_cut {s : Sh} {a c : Nat} (ea : s.wide = a) (ec : s.high = c) (ha : a ≤ 8) (hc : c ≤ 8) {f g : Nat → Bool} (hf : inFree s f) (h : agr f g) : allL f = fl (fun x y => g (8 * y + x)) (cellsL a c) := by
  unfold allL
  rw [fl_cut _ a c ha hc fun x y hx hy hp => by
    have h1 := hf ⟨(x, y), hx, hy⟩ hp
    unfold freeB hasB at h1
    simp only [Int.toNat_natCast, ea, ec, Bool.and_eq_true, decide_eq_true_eq] at h1
    omega]
  unfold fl
  refine List.filter_congr fun p hp => ?_
  exact h _ (pix_lt p)
end Go.Proofs.YthienbbecbakjaaDoor
namespace Go.Proofs.YthienbbecbakjaaDoor
open Go.RowKit
set_option maxRecDepth 100000
set_option linter.unusedVariables false
set_option linter.unusedSimpArgs false
set_option maxHeartbeats 2000000 in
theorem lspc_bad (s : Sh) (D n k : Nat) (px py : Nat → Int) (w : World) (hk : k = 1 ∨ k = 2) (h2 : w.heap[D]? = some (.cells (vrow (n * 2) (spf px py)) 61)) (HA0 : ∀ b w, w.heap[b]? = some (.cells (vrow 266 s.at) 37) → w.heap[D]? = some (.cells (vrow (n * 2) (spf px py)) 61) → Calls Tryd.prog 24 #[.pointer (some ⟨b, 0, none⟩), .slice (some ⟨D, 0, none⟩) n n] w fun e w' => e = .returned (.int .i64 k) ∧ Below w.heap.size w w') : Calls Tryd.prog 9 #[.agg s.row, .slice (some ⟨D, 0, none⟩) n n] w fun e w' => ∃ v, e = .returned (.tuple #[v, .int .i64 k]) ∧ (∃ ao cp, v = .slice ao 0 cp) ∧ Below w.heap.size w w' := by
  have HA := Go.Lib.hid HA0
  clear HA0
  have hk1 : ((k : Int) == 0) = false := by rcases hk with rfl | rfl <;> rfl
  have hk2 : (!((k : Int) == 0)) = true := by rw [hk1]; rfl
  have hk3 : ((k : Int) != 0) = true := by rcases hk with rfl | rfl <;> rfl
  have P : Hid ((w.alloc (.cells (vrow 266 s.at) 37)).heap[w.heap.size]? = some (.cells (vrow 266 s.at) 37)) := heap_at _ _ _ (by simp)
  have L : Hid ((w.alloc (.cells (vrow 266 s.at) 37)).heap[D]? = some (.cells (vrow (n * 2) (spf px py)) 61)) := heap_past _ _ _ _ (row_lt h2) h2
  have hB : Hid (Below w.heap.size w (w.alloc (.cells (vrow 266 s.at) 37))) := Go.Lib.hid ((Below.refl w.heap.size w).alloc (by simp <;> omega) _)
  clear h2
  have zb := zero_b88
  go_enter Tryd.func9, Tryd.ntmps9
  go_wp2_with (first
    | go_skip
    | (go_at_call 24; (refine (HA.out _ _ P.out L.out).mono ?_); rintro o w1 ⟨rfl, hb⟩; replace P := Go.Lib.hid (row_next hb P.out); replace L := Go.Lib.hid (row_next hb L.out); replace hB := Go.Lib.hid (below_next hB.out hb); clear hb))
  go_ret2
  exact ⟨_, rfl, ⟨_, _, rfl⟩, hB.out.alloc hB.out.size _⟩
set_option maxHeartbeats 4000000 in
theorem lspc_ok (s : Sh) (D n : Nat) (px py : Nat → Int) (f : Nat → Bool) (w : World) (hn : n ≤ 1048576) (hf : s.fit) (ho : okI s = true) (hin : insL s px py n = true) (hfe : mkS s px py n = f) (h2 : w.heap[D]? = some (.cells (vrow (n * 2) (spf px py)) 61)) (HA0 : ∀ b w, w.heap[b]? = some (.cells (vrow 266 s.at) 37) → w.heap[D]? = some (.cells (vrow (n * 2) (spf px py)) 61) → Calls Tryd.prog 24 #[.pointer (some ⟨b, 0, none⟩), .slice (some ⟨D, 0, none⟩) n n] w fun e w' => e = .returned (.int .i64 0) ∧ Below w.heap.size w w') : Calls Tryd.prog 9 #[.agg s.row, .slice (some ⟨D, 0, none⟩) n n] w fun e w' => ∃ v, e = .returned (.tuple #[v, .int .i64 0]) ∧ Owns w' w.heap.size v (allL (mspr s (allL f) f)) ∧ Below w.heap.size w w' := by
  have HA := Go.Lib.hid HA0
  have HS : Hid (∀ b w, w.heap[b]? = some (.cells (vrow 266 s.at) 37) → w.heap[D]? = some (.cells (vrow (n * 2) (spf px py)) 61) → Calls Tryd.prog 25 #[.pointer (some ⟨b, 0, none⟩), .slice (some ⟨D, 0, none⟩) n n] w fun e w' => e = .returned (.agg (vrow 64 (blf f))) ∧ Below w.heap.size w w') := Go.Lib.hid fun b w h1 h2 => by have h := lset_any s b px py D n w hn (insL_in8 ho hin) h1 h2; rw [hfe] at h; exact h
  have HP := Go.Lib.hid fun b bi w h1 h2 => lspr_any s b bi f w ho hf h1 h2
  have HLL := Go.Lib.hid fun g b w hs => (show Calls Tryd.prog 27 #[.pointer (some ⟨b, 0, none⟩)] w fun e w' => ∃ v, e = .returned v ∧ Owns w' w.heap.size v (allL g) ∧ Below w.heap.size w w' from llist_any g b w hs)
  clear HA0 hfe
  generalize mspr s (allL f) f = r at *
  have P : Hid ((w.alloc (.cells (vrow 266 s.at) 37)).heap[w.heap.size]? = some (.cells (vrow 266 s.at) 37)) := heap_at _ _ _ (by simp)
  have L : Hid ((w.alloc (.cells (vrow 266 s.at) 37)).heap[D]? = some (.cells (vrow (n * 2) (spf px py)) 61)) := heap_past _ _ _ _ (row_lt h2) h2
  have hB : Hid (Below w.heap.size w (w.alloc (.cells (vrow 266 s.at) 37))) := Go.Lib.hid ((Below.refl w.heap.size w).alloc (by simp <;> omega) _)
  clear h2
  have zb := zero_b88
  go_enter Tryd.func9, Tryd.ntmps9
  go_wp2_with (first
    | go_skip
    | (go_at_call 24; (refine (HA.out _ _ P.out L.out).mono ?_); rintro o w1 ⟨rfl, hb⟩; replace P := Go.Lib.hid (row_next hb P.out); replace L := Go.Lib.hid (row_next hb L.out); replace hB := Go.Lib.hid (below_next hB.out hb); clear hb)
    | (go_at_call 25; (refine (HS.out _ _ P.out L.out).mono ?_); rintro o w2 ⟨rfl, hb⟩; replace P := Go.Lib.hid (row_next hb P.out); replace L := Go.Lib.hid (row_next hb L.out); replace hB := Go.Lib.hid (below_next hB.out hb); clear hb L)
    | ((with_reducible refine wlOp (.store 52 (.tmp 7) (.tmp 16)) rfl ?_); refine wpList_storeall rfl 52 (.tmp 7) (.tmp 16) rfl _ rfl 64 (blf fun _ => false) (blf f) rfl 52 size_b88 (heap_at _ _ _ rfl) (fun i _ => blf_one _ i) ?_; rw [setRow_at _ _ _ _ _ rfl]; have V := Go.Lib.hid (heap_at w2 (.cells (vrow 64 (blf f)) 52) _ rfl); have nP := row_lt P.out; replace P := Go.Lib.hid (heap_past _ (.cells (vrow 64 (blf f)) 52) _ _ nP P.out); replace hB := Go.Lib.hid (hB.out.alloc hB.out.size (.cells (vrow 64 (blf f)) 52)); generalize w2.heap.size = vb at V ⊢; generalize w2.alloc _ = w2' at V P hB ⊢)
    | (go_at_call 26; (refine (HP.out _ _ _ P.out V.out).mono ?_); rintro o w4 ⟨rfl, hb⟩; replace hB := Go.Lib.hid (below_next hB.out hb); clear hb P V)
    | ((with_reducible refine wlOp (.store 52 (.tmp 8) (.tmp 17)) rfl ?_); refine wpList_storeall rfl 52 (.tmp 8) (.tmp 17) rfl _ rfl 64 (blf fun _ => false) (blf r) rfl 52 size_b88 (heap_at _ _ _ rfl) (fun i _ => blf_one _ i) ?_; rw [setRow_at _ _ _ _ _ rfl]; have X := Go.Lib.hid (heap_at w4 (.cells (vrow 64 (blf r)) 52) _ rfl); replace hB := Go.Lib.hid (hB.out.alloc hB.out.size (.cells (vrow 64 (blf r)) 52)); generalize w4.heap.size = xb at X ⊢; generalize w4.alloc _ = w4' at X hB ⊢)
    | (go_at_call 27; (refine (HLL.out r _ _ X.out).mono ?_); rintro o w5 ⟨v, rfl, hO, hb⟩; have hbs := hB.out.size; replace hB := Go.Lib.hid (below_next hB.out hb); clear hb))
  go_ret2
  exact ⟨v, rfl, ⟨own_mono hbs hO.own⟩, hB.out⟩
set_option maxHeartbeats 2000000 in
theorem linc_bad (s : Sh) (D n k : Nat) (px py : Nat → Int) (w : World) (hk : k = 1 ∨ k = 2) (h2 : w.heap[D]? = some (.cells (vrow (n * 2) (spf px py)) 61)) (HA0 : ∀ b w, w.heap[b]? = some (.cells (vrow 266 s.at) 37) → w.heap[D]? = some (.cells (vrow (n * 2) (spf px py)) 61) → Calls Tryd.prog 24 #[.pointer (some ⟨b, 0, none⟩), .slice (some ⟨D, 0, none⟩) n n] w fun e w' => e = .returned (.int .i64 k) ∧ Below w.heap.size w w') : Calls Tryd.prog 18 #[.agg s.row, .slice (some ⟨D, 0, none⟩) n n] w fun e w' => ∃ v, e = .returned (.tuple #[v, .int .i64 k]) ∧ (∃ ao cp, v = .slice ao 0 cp) ∧ Below w.heap.size w w' := by
  have HA := Go.Lib.hid HA0
  clear HA0
  have hk1 : ((k : Int) == 0) = false := by rcases hk with rfl | rfl <;> rfl
  have hk2 : (!((k : Int) == 0)) = true := by rw [hk1]; rfl
  have hk3 : ((k : Int) != 0) = true := by rcases hk with rfl | rfl <;> rfl
  have P : Hid ((w.alloc (.cells (vrow 266 s.at) 37)).heap[w.heap.size]? = some (.cells (vrow 266 s.at) 37)) := heap_at _ _ _ (by simp)
  have L : Hid ((w.alloc (.cells (vrow 266 s.at) 37)).heap[D]? = some (.cells (vrow (n * 2) (spf px py)) 61)) := heap_past _ _ _ _ (row_lt h2) h2
  have hB : Hid (Below w.heap.size w (w.alloc (.cells (vrow 266 s.at) 37))) := Go.Lib.hid ((Below.refl w.heap.size w).alloc (by simp <;> omega) _)
  clear h2
  have zb := zero_b88
  go_enter Tryd.func18, Tryd.ntmps18
  go_wp2_with (first
    | go_skip
    | (go_at_call 24; (refine (HA.out _ _ P.out L.out).mono ?_); rintro o w1 ⟨rfl, hb⟩; replace P := Go.Lib.hid (row_next hb P.out); replace L := Go.Lib.hid (row_next hb L.out); replace hB := Go.Lib.hid (below_next hB.out hb); clear hb))
  go_ret2
  exact ⟨_, rfl, ⟨_, _, rfl⟩, hB.out.alloc hB.out.size _⟩
set_option maxHeartbeats 4000000 in
theorem linc_ok (s : Sh) (D n : Nat) (px py : Nat → Int) (f : Nat → Bool) (w : World) (hn : n ≤ 1048576) (hf : s.fit) (ho : okI s = true) (hin : insL s px py n = true) (hfe : mkS s px py n = f) (h2 : w.heap[D]? = some (.cells (vrow (n * 2) (spf px py)) 61)) (HA0 : ∀ b w, w.heap[b]? = some (.cells (vrow 266 s.at) 37) → w.heap[D]? = some (.cells (vrow (n * 2) (spf px py)) 61) → Calls Tryd.prog 24 #[.pointer (some ⟨b, 0, none⟩), .slice (some ⟨D, 0, none⟩) n n] w fun e w' => e = .returned (.int .i64 0) ∧ Below w.heap.size w w') : Calls Tryd.prog 18 #[.agg s.row, .slice (some ⟨D, 0, none⟩) n n] w fun e w' => ∃ v, e = .returned (.tuple #[v, .int .i64 0]) ∧ Owns w' w.heap.size v (allL (minn s f (allL f))) ∧ Below w.heap.size w w' := by
  have HA := Go.Lib.hid HA0
  have HS : Hid (∀ b w, w.heap[b]? = some (.cells (vrow 266 s.at) 37) → w.heap[D]? = some (.cells (vrow (n * 2) (spf px py)) 61) → Calls Tryd.prog 25 #[.pointer (some ⟨b, 0, none⟩), .slice (some ⟨D, 0, none⟩) n n] w fun e w' => e = .returned (.agg (vrow 64 (blf f))) ∧ Below w.heap.size w w') := Go.Lib.hid fun b w h1 h2 => by have h := lset_any s b px py D n w hn (insL_in8 ho hin) h1 h2; rw [hfe] at h; exact h
  have HP := Go.Lib.hid fun b bi w h1 h2 => linn_any s b bi f w ho hf h1 h2
  have HLL := Go.Lib.hid fun g b w hs => (show Calls Tryd.prog 27 #[.pointer (some ⟨b, 0, none⟩)] w fun e w' => ∃ v, e = .returned v ∧ Owns w' w.heap.size v (allL g) ∧ Below w.heap.size w w' from llist_any g b w hs)
  clear HA0 hfe
  generalize minn s f (allL f) = r at *
  have P : Hid ((w.alloc (.cells (vrow 266 s.at) 37)).heap[w.heap.size]? = some (.cells (vrow 266 s.at) 37)) := heap_at _ _ _ (by simp)
  have L : Hid ((w.alloc (.cells (vrow 266 s.at) 37)).heap[D]? = some (.cells (vrow (n * 2) (spf px py)) 61)) := heap_past _ _ _ _ (row_lt h2) h2
  have hB : Hid (Below w.heap.size w (w.alloc (.cells (vrow 266 s.at) 37))) := Go.Lib.hid ((Below.refl w.heap.size w).alloc (by simp <;> omega) _)
  clear h2
  have zb := zero_b88
  go_enter Tryd.func18, Tryd.ntmps18
  go_wp2_with (first
    | go_skip
    | (go_at_call 24; (refine (HA.out _ _ P.out L.out).mono ?_); rintro o w1 ⟨rfl, hb⟩; replace P := Go.Lib.hid (row_next hb P.out); replace L := Go.Lib.hid (row_next hb L.out); replace hB := Go.Lib.hid (below_next hB.out hb); clear hb)
    | (go_at_call 25; (refine (HS.out _ _ P.out L.out).mono ?_); rintro o w2 ⟨rfl, hb⟩; replace P := Go.Lib.hid (row_next hb P.out); replace L := Go.Lib.hid (row_next hb L.out); replace hB := Go.Lib.hid (below_next hB.out hb); clear hb L)
    | ((with_reducible refine wlOp (.store 52 (.tmp 7) (.tmp 16)) rfl ?_); refine wpList_storeall rfl 52 (.tmp 7) (.tmp 16) rfl _ rfl 64 (blf fun _ => false) (blf f) rfl 52 size_b88 (heap_at _ _ _ rfl) (fun i _ => blf_one _ i) ?_; rw [setRow_at _ _ _ _ _ rfl]; have V := Go.Lib.hid (heap_at w2 (.cells (vrow 64 (blf f)) 52) _ rfl); have nP := row_lt P.out; replace P := Go.Lib.hid (heap_past _ (.cells (vrow 64 (blf f)) 52) _ _ nP P.out); replace hB := Go.Lib.hid (hB.out.alloc hB.out.size (.cells (vrow 64 (blf f)) 52)); generalize w2.heap.size = vb at V ⊢; generalize w2.alloc _ = w2' at V P hB ⊢)
    | (go_at_call 41; (refine (HP.out _ _ _ P.out V.out).mono ?_); rintro o w4 ⟨rfl, hb⟩; replace hB := Go.Lib.hid (below_next hB.out hb); clear hb P V)
    | ((with_reducible refine wlOp (.store 52 (.tmp 8) (.tmp 17)) rfl ?_); refine wpList_storeall rfl 52 (.tmp 8) (.tmp 17) rfl _ rfl 64 (blf fun _ => false) (blf r) rfl 52 size_b88 (heap_at _ _ _ rfl) (fun i _ => blf_one _ i) ?_; rw [setRow_at _ _ _ _ _ rfl]; have X := Go.Lib.hid (heap_at w4 (.cells (vrow 64 (blf r)) 52) _ rfl); replace hB := Go.Lib.hid (hB.out.alloc hB.out.size (.cells (vrow 64 (blf r)) 52)); generalize w4.heap.size = xb at X ⊢; generalize w4.alloc _ = w4' at X hB ⊢)
    | (go_at_call 27; (refine (HLL.out r _ _ X.out).mono ?_); rintro o w5 ⟨v, rfl, hO, hb⟩; have hbs := hB.out.size; replace hB := Go.Lib.hid (below_next hB.out hb); clear hb))
  go_ret2
  exact ⟨v, rfl, ⟨own_mono hbs hO.own⟩, hB.out⟩
end Go.Proofs.YthienbbecbakjaaDoor
