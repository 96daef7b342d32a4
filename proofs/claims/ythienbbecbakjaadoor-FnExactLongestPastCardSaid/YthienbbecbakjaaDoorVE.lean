import Derived.Deep.RegionHeld3
import Derived.Test.YthienbbecbakjaaDoorVC
import Derived.ChangeKeysEq
import Derived.Test.YthienbbecbakjaaDoorVD
import Derived.Test.YthienbbecbakjaaDoorQT
namespace Go.Proofs.YthienbbecbakjaaDoor
open Go.RowKit
set_option maxRecDepth 100000
set_option linter.unusedVariables false
set_option linter.unusedSimpArgs false
set_option maxHeartbeats 4000000 in
theorem bck_bad (s : Sh) (b D n q : Nat) (px py : Nat → Int) (w : World) (hq : q = 1 ∨ q = 2) (hn : n ≤ 1048576) (h1 : w.heap[b]? = some (.cells (vrow 266 s.at) 37)) (h2 : w.heap[D]? = some (.cells (vrow (n * 2) (spf px py)) 61)) (HA0 : ∀ w, w.heap[b]? = some (.cells (vrow 266 s.at) 37) → w.heap[D]? = some (.cells (vrow (n * 2) (spf px py)) 61) → Calls Tryd.prog 24 #[.pointer (some ⟨b, 0, none⟩), .slice (some ⟨D, 0, none⟩) n n] w fun e w' => e = .returned (.int .i64 q) ∧ Below w.heap.size w w') : Calls Tryd.prog 44 #[.pointer (some ⟨b, 0, none⟩), .slice (some ⟨D, 0, none⟩) n n] w fun e w' => e = .returned (.int .i64 q) ∧ Below w.heap.size w w' := by
  have HA := Go.Lib.hid HA0
  clear HA0
  have hk1 : ((q : Int) == 0) = false := by rcases hq with rfl | rfl <;> rfl
  have hk2 : (!((q : Int) == 0)) = true := by rw [hk1]; rfl
  have hk3 : ((q : Int) != 0) = true := by rcases hq with rfl | rfl <;> rfl
  have P := Go.Lib.hid h1; have L := Go.Lib.hid h2; have hB := Go.Lib.hid (Below.refl w.heap.size w)
  clear h1 h2
  go_enter Tryd.func44, Tryd.ntmps44
  go_wp2_with (first
    | go_skip
    | (go_at_call 24; (refine (HA.out _ P.out L.out).mono ?_); rintro o w1 ⟨rfl, hb⟩; replace P := Go.Lib.hid (row_next hb P.out); replace L := Go.Lib.hid (row_next hb L.out); replace hB := Go.Lib.hid (below_next hB.out hb); clear hb))
  have b1 := hB.out
  clear P L hB
  go_loopw [5, 6] (fun cv kv wr => cv = .int .i64 q ∧ kv = .int .i64 0 ∧ Below w.heap.size w wr) (fun _ kv _ => 0)
  case atStart => exact ⟨rfl, rfl, b1⟩
  case round =>
    obtain ⟨rfl, rfl, hB⟩ := hrel
    clear b1
    rcases Nat.eq_zero_or_pos n with h0 | hp
    · subst h0
      go_wp2
      go_ret
      exact ⟨rfl, hB⟩
    · have hkd : decide ((0 : Int) < (n : Int)) = true := by simp; omega
      go_wp2
      go_ret
      exact ⟨rfl, hB⟩
set_option maxHeartbeats 4000000 in
theorem bck_any (s : Sh) (b D n : Nat) (px py : Nat → Int) (bw : Bool) (w : World) (hn : n ≤ 1048576) (ho : okI s = true) (hin : insL s px py n = true) (hw : waxL s px py n = bw) (h1 : w.heap[b]? = some (.cells (vrow 266 s.at) 37)) (h2 : w.heap[D]? = some (.cells (vrow (n * 2) (spf px py)) 61)) (HA0 : ∀ w, w.heap[b]? = some (.cells (vrow 266 s.at) 37) → w.heap[D]? = some (.cells (vrow (n * 2) (spf px py)) 61) → Calls Tryd.prog 24 #[.pointer (some ⟨b, 0, none⟩), .slice (some ⟨D, 0, none⟩) n n] w fun e w' => e = .returned (.int .i64 0) ∧ Below w.heap.size w w') : Calls Tryd.prog 44 #[.pointer (some ⟨b, 0, none⟩), .slice (some ⟨D, 0, none⟩) n n] w fun e w' => e = .returned (.int .i64 (if bw then 4 else 0)) ∧ Below w.heap.size w w' := by
  have HA := Go.Lib.hid HA0
  clear HA0
  have HWX := Go.Lib.hid fun k (hk : k < n) w hs => (show Calls Tryd.prog 51 #[.pointer (some ⟨b, 0, none⟩), .agg #[.int .i8 (px k), .int .i8 (py k)]] w fun e w' => e = .returned (.bool (waxB s (px k).toNat (py k).toNat)) ∧ Below w.heap.size w w' from by
    obtain ⟨x, y, ex, ey, hx, hy⟩ := insL_in8 ho hin k hk
    rw [ex, ey, Int.toNat_natCast, Int.toNat_natCast]
    exact lwaxed_any s b x y w hs hx hy)
  have hw0 : anyN (fun i => waxB s (px i).toNat (py i).toNat) n = bw := hw
  clear hin ho hw
  generalize hpb : (fun i => waxB s (px i).toNat (py i).toNat) = pb at *
  have hpk : ∀ k, waxB s (px k).toNat (py k).toNat = pb k := fun k => by rw [← hpb]
  clear hpb
  have P := Go.Lib.hid h1; have L := Go.Lib.hid h2; have hB := Go.Lib.hid (Below.refl w.heap.size w)
  clear h1 h2
  go_enter Tryd.func44, Tryd.ntmps44
  go_wp2_with (first
    | go_skip
    | (go_at_call 24; (refine (HA.out _ P.out L.out).mono ?_); rintro o w1 ⟨rfl, hb⟩; replace P := Go.Lib.hid (row_next hb P.out); replace L := Go.Lib.hid (row_next hb L.out); replace hB := Go.Lib.hid (below_next hB.out hb); clear hb))
  have p1 := P.out; have l1 := L.out; have b1 := hB.out
  clear P L hB HA
  go_loopw [5, 6] (fun cv kv wr => ∃ k : Nat, k ≤ n ∧ kv = .int .i64 k ∧ cv = .int .i64 (if anyN pb k then 4 else 0) ∧ wr.heap[b]? = some (.cells (vrow 266 s.at) 37) ∧ wr.heap[D]? = some (.cells (vrow (n * 2) (spf px py)) 61) ∧ Below w.heap.size w wr) (fun _ kv _ => n - (intOf kv).toNat)
  case atStart => exact ⟨0, by omega, rfl, rfl, p1, l1, b1⟩
  case round =>
    clear p1 l1 b1
    obtain ⟨k, hk, rfl, rfl, P, L, hB⟩ := hrel
    by_cases hlt : k < n
    · have hkI : (k : Int) < (n : Int) := by omega
      have hk0 : (0 : Int) ≤ (k : Int) := by omega
      have hkd : decide ((k : Int) < (n : Int)) = true := by simpa using hkI
      have hst : anyN pb (k + 1) = (anyN pb k || pb k) := rfl
      cases ha : anyN pb k
      · have HR : Hid (vrow 2 (fun j => spf px py (k * 2 + j)) = #[.int .i8 (px k), .int .i8 (py k)]) := Go.Lib.hid (spf_two px py k)
        have HW0 := HWX.out k hlt
        rw [hpk] at HW0
        have HW := Go.Lib.hid HW0
        clear HW0
        rw [ha, Bool.false_or] at hst
        simp only [Bool.false_eq_true, if_false]
        replace P := Go.Lib.hid P; replace L := Go.Lib.hid L; replace hB := Go.Lib.hid hB
        have HST := Go.Lib.hid hst
        clear hst
        cases hp : pb k
        all_goals
          rw [hp] at HW HST
          go_wp2_with (first
            | go_skip
            | ((with_reducible refine wlAt 24 rfl ?_); refine wpList_loadmid rfl 61 (.tmp 23) rfl D (k * 2) rfl (n * 2) 2 (spf px py) 61 _ Tryd.underlying61 rfl size_spot L.out (by omega) ?_; rw [HR.out])
            | (go_at_call 51; (refine (HW.out _ P.out).mono ?_); rintro o w1 ⟨rfl, hb⟩; replace P := Go.Lib.hid (row_next hb P.out); replace L := Go.Lib.hid (row_next hb L.out); replace hB := Go.Lib.hid (below_next hB.out hb); clear hb))
          go_roundw
          case rel => exact ⟨k + 1, by omega, by go_num, by rw [HST.out]; rfl, P.out, L.out, hB.out⟩
          case measure => simp [intOf]; omega
      · have hbt : bw = true := by
          obtain ⟨i, hi, hpi⟩ := anyN_ex k ha
          rw [← hw0]; exact anyN_some hpi n (by omega)
        subst hbt
        simp only [if_true]
        go_wp2
        go_ret
        exact ⟨rfl, hB⟩
    · obtain rfl : k = n := by omega
      have hkd : decide ((k : Int) < (k : Int)) = false := by simp
      rw [hw0]
      cases bw
      all_goals
        simp only [Bool.false_eq_true, if_false, if_true]
        go_wp2
        go_ret
        exact ⟨rfl, hB⟩
end Go.Proofs.YthienbbecbakjaaDoor
namespace Go.Proofs.YthienbbecbakjaaDoor
open Go.RowKit
set_option maxRecDepth 100000
set_option linter.unusedVariables false
set_option linter.unusedSimpArgs false
theorem eqb_any (d : Nat) (a b : Bool) (w : World) : (Op.equalIn (d + 1) 4 (.bool a) (.bool b)).run Tryd.prog w = .ok (a == b) w := by
  simp only [Op.equalIn, Sem.run_bind, run_underlying Tryd.underlying4, Result.andThen_ok]
  rfl
theorem parb_any (f : Nat → Value) (n j : Nat) (hj : j < n) (w : World) : (part 4 (vrow n f) j).run Tryd.prog w = .ok (f j) w := by
  have hp : Tryd.prog.plainKey 4 = true := by kernel_rfl
  exact run_part_plain w hp (by unfold vrow; simp [hj])
theorem cells_bool : Tryd.prog.cellsOf 4 = 1 := by kernel_rfl
theorem cells_8 : Tryd.prog.cellsOf 51 = 8 := by kernel_rfl
/-- two rows of bools, place by place -/
def allQ (f g : Nat → Bool) (o : Nat) : List Nat → Bool
  | [] => true
  | j :: js => (f (o + j) == g (o + j)) && allQ f g o js
theorem items_b (d o : Nat) (f g : Nat → Bool) (w : World) : ∀ (is : List Nat), (∀ j ∈ is, j < 8) → (Op.eqItems (d + 1) 4 1 (vrow 8 fun j => blf f (o + j)) (vrow 8 fun j => blf g (o + j)) is).run Tryd.prog w = .ok (allQ f g o is) w
  | [], _ => by simp [Op.eqItems, allQ]
  | j :: js, h => by
    have hj : j < 8 := h j List.mem_cons_self
    have h1 := parb_any (fun j => blf f (o + j)) 8 j hj w
    have h2 := parb_any (fun j => blf g (o + j)) 8 j hj w
    have h3 := eqb_any d (f (o + j)) (g (o + j)) w
    simp only [Op.eqItems, Sem.run_bind, Nat.mul_one, h1, h2, Result.andThen_ok]
    rw [show (blf f (o + j)) = .bool (f (o + j)) from rfl, show (blf g (o + j)) = .bool (g (o + j)) from rfl, h3]
    simp only [Result.andThen_ok, allQ]
    cases f (o + j) == g (o + j)
    · simp
    · simpa using items_b d o f g w js (fun q hq => h q (List.mem_cons_of_mem _ hq))
theorem par8_any (f : Nat → Bool) (i : Nat) (hi : i < 8) (w : World) : (part 51 (vrow 64 (blf f)) (i * 8)).run Tryd.prog w = .ok (.agg (vrow 8 fun j => blf f (i * 8 + j))) w := by
  obtain ⟨q, hq⟩ := info_of_underlying Tryd.underlying51
  have h1 : (part 51 (vrow 64 (blf f)) (i * 8)).run Tryd.prog w = .ok (.agg ((vrow 64 (blf f)).extract (i * 8) (i * 8 + 8))) w := by
    simp only [part, isAgg, Sem.run_bind, run_underlying Tryd.underlying51, Result.andThen_ok, run_sizeOf w hq, cells_8]
    simp [run_underlying Tryd.underlying51, run_sizeOf w hq, cells_8]
  rw [h1]
  congr 2
  refine Array.ext (by simp [vrow]; omega) fun j h2 h3 => ?_
  simp [vrow]
def allR (f g : Nat → Bool) : List Nat → Bool
  | [] => true
  | i :: is => allQ f g (i * 8) (List.range 8) && allR f g is
theorem items_8 (d : Nat) (f g : Nat → Bool) (w : World) : ∀ (is : List Nat), (∀ j ∈ is, j < 8) → (Op.eqItems (d + 1 + 1) 51 8 (vrow 64 (blf f)) (vrow 64 (blf g)) is).run Tryd.prog w = .ok (allR f g is) w
  | [], _ => by simp [Op.eqItems, allR]
  | i :: is, h => by
    have hi : i < 8 := h i List.mem_cons_self
    obtain ⟨q, hq⟩ := info_of_underlying Tryd.underlying4
    have h3 := run_equalIn_array w (d + 1) (vrow 8 fun j => blf f (i * 8 + j)) (vrow 8 fun j => blf g (i * 8 + j)) Tryd.underlying51 hq
    rw [cells_bool, items_b d (i * 8) f g w (List.range 8) (fun j hj => List.mem_range.1 hj)] at h3
    simp only [Op.eqItems, Sem.run_bind, par8_any f i hi w, par8_any g i hi w, h3, Result.andThen_ok, allR]
    cases allQ f g (i * 8) (List.range 8)
    · simp
    · simpa using items_8 d f g w is (fun q hq => h q (List.mem_cons_of_mem _ hq))
theorem allQ_iff (f g : Nat → Bool) (o : Nat) : ∀ l, allQ f g o l = true ↔ ∀ j ∈ l, f (o + j) = g (o + j)
  | [] => by simp [allQ]
  | j :: js => by simp [allQ, allQ_iff f g o js]
theorem allR_iff (f g : Nat → Bool) : ∀ l, allR f g l = true ↔ ∀ i ∈ l, ∀ j, j < 8 → f (i * 8 + j) = g (i * 8 + j)
  | [] => by simp [allR]
  | i :: is => by simp [allR, allR_iff f g is, allQ_iff]
/-- the two sets hold the same cells -/
def eqS (f g : Nat → Bool) : Bool := allR f g (List.range 8)
theorem eqS_iff (f g : Nat → Bool) : eqS f g = true ↔ agr f g := by
  unfold eqS
  rw [allR_iff]
  constructor
  · intro h i hi
    have := h (i / 8) (List.mem_range.2 (by omega)) (i % 8) (by omega)
    rwa [show i / 8 * 8 + i % 8 = i by omega] at this
  · intro h i hi j hj
    have := List.mem_range.1 hi
    exact h _ (by omega)
theorem eqS_agr {f f2 g g2 : Nat → Bool} (h : agr f f2) (h2 : agr g g2) : eqS f g = eqS f2 g2 := by
  rw [Bool.eq_iff_iff, eqS_iff, eqS_iff]
  exact ⟨fun q i hi => by rw [← h i hi, ← h2 i hi]; exact q i hi, fun q i hi => by rw [h i hi, h2 i hi]; exact q i hi⟩
theorem eq88_any (d : Nat) (f g : Nat → Bool) (w : World) : (Op.equalIn (d + 1 + 1 + 1) 52 (.agg (vrow 64 (blf f))) (.agg (vrow 64 (blf g)))).run Tryd.prog w = .ok (eqS f g) w := by
  obtain ⟨q, hq⟩ := info_of_underlying Tryd.underlying51
  rw [run_equalIn_array w (d + 1 + 1) _ _ Tryd.underlying52 hq, cells_8]
  exact items_8 d f g w (List.range 8) (fun j hj => List.mem_range.1 hj)
theorem eqar_any (d : Nat) (f g : Nat → Bool) (w : World) : (Op.equalIn (d + 1 + 1 + 1) 72 (.agg (vrow 64 (blf f))) (.agg (vrow 64 (blf g)))).run Tryd.prog w = .ok (eqS f g) w := by
  obtain ⟨q, hq⟩ := info_of_underlying Tryd.underlying51
  rw [run_equalIn_array w (d + 1 + 1) _ _ Tryd.underlying72 hq, cells_8]
  exact items_8 d f g w (List.range 8) (fun j hj => List.mem_range.1 hj)
end Go.Proofs.YthienbbecbakjaaDoor
namespace Go.Proofs.YthienbbecbakjaaDoor
open Go.RowKit
set_option maxRecDepth 100000
set_option linter.unusedVariables false
set_option linter.unusedSimpArgs false
theorem gr_ne1A {W : World} {gp gl : Nat} {s : Sh} {l : List Sp8} {f f2 : Nat → Value} (h : GRow W gp gl s l f f2) {b : Nat} {g : Nat → Value} (hb : W.heap[b]? = some (.cells (vrow 64 g) 72)) : gp ≠ b := fun e => by
  have := h.pl; rw [e, hb] at this; injection this with e1; injection e1 with e2 e3; revert e3; decide
theorem gr_ne2A {W : World} {gp gl : Nat} {s : Sh} {l : List Sp8} {f f2 : Nat → Value} (h : GRow W gp gl s l f f2) {b : Nat} {g : Nat → Value} (hb : W.heap[b]? = some (.cells (vrow 64 g) 72)) : gl ≠ b := fun e => by
  have := h.li; rw [e, hb] at this; injection this with e1; injection e1 with e2 e3; revert e3; decide
set_option maxHeartbeats 8000000 in
theorem hfr_ok (s : Sh) (D n : Nat) (px py : Nat → Int) (a c : Nat) (e : ErrE) (w : World) (hE : Errs e w) (hn : n ≤ 1048576) (ea : s.wide = a) (ec : s.high = c) (ha : a ≤ 8) (hc : c ≤ 8) (hf : s.fit) (ho : okI s = true) (hin : insL s px py n = true) (hw : waxL s px py n = false) (h2 : w.heap[D]? = some (.cells (vrow (n * 2) (spf px py)) 61)) : Calls Tryd.prog 21 #[.agg s.row, .slice (some ⟨D, 0, none⟩) n n] w fun o w' => o = .returned (.tuple #[.bool (eqS (sprI s (dryL s (cellsL a c)) (plA (dryL s (cellsL a c)) (innP s (mkA px py n))) 1) (mkA px py n)), .int .i64 0]) ∧ Below w.heap.size w w' := by
  have HK := Go.Lib.hid fun w hE h2 => ckUnw_any s D n px py e w hn hE h2 hf ho hin false hw
  have HAO := Go.Lib.hid fun w h2 => areaOf_any px py D n w hn (insL_in8 ho hin) h2
  have HGR := Go.Lib.hid fun w => ground_any s a c w ea ec ha hc ho
  generalize hl : dryL s (cellsL a c) = l at *
  generalize mkA px py n = m at *
  have HIN := Go.Lib.hid fun gp gl f f2 w hG => inner_any s l gp gl f f2 m w hG
  generalize plA l (innP s m) = r at *
  have HSP := Go.Lib.hid fun gp gl f f2 w hG => spread_any s l gp gl 1 f f2 r w (by omega) hG
  generalize sprI s l r 1 = q at *
  clear hin hf ho hw hl
  have P : Hid ((w.alloc (.cells (vrow 266 s.at) 37)).heap[w.heap.size]? = some (.cells (vrow 266 s.at) 37)) := heap_at _ _ _ (by simp)
  have L : Hid ((w.alloc (.cells (vrow 266 s.at) 37)).heap[D]? = some (.cells (vrow (n * 2) (spf px py)) 61)) := heap_past _ _ _ _ (row_lt h2) h2
  have hB : Hid (Below w.heap.size w (w.alloc (.cells (vrow 266 s.at) 37))) := Go.Lib.hid ((Below.refl w.heap.size w).alloc (by simp <;> omega) _)
  clear h2
  have za := zero_ar
  go_enter Tryd.func21, Tryd.ntmps21
  go_wp2_with (first
    | go_skip
    | ((with_reducible refine wlAt 9 rfl ?_); refine wpList_loadall rfl 37 (.tmp 2) rfl _ rfl 266 s.at 37 _ Tryd.underlying37 rfl size_sheet P.out ?_)
    | (go_at_call 47; (refine (HK.out _ (hE.next hB.out) L.out).mono ?_); rintro o w1 ⟨rfl, hb⟩; replace P := Go.Lib.hid (row_next hb P.out); replace L := Go.Lib.hid (row_next hb L.out); replace hB := Go.Lib.hid (below_next hB.out hb); clear hb))
  refine Code.wp_mono (Q := fun ex a' W' => ex = .normal ∧ ∃ gp gl bb f f2, a' = { tmps := #[.agg s.row, .slice (some ⟨D, 0, none⟩) n n, .pointer (some ⟨w.heap.size, 0, none⟩), undef, .bool false, .int .i64 0, .nilIface, .pointer (some ⟨bb, 0, none⟩), .slice (some ⟨gp, 0, none⟩) l.length 64, .agg (vrow 266 s.at), .slice (some ⟨D, 0, none⟩) n n, .nilIface, .nilIface, .bool false, undef, undef, .slice (some ⟨D, 0, none⟩) n n, .agg (vrow 64 (blf m)), .agg (vrow 266 s.at), .slice (some ⟨gp, 0, none⟩) l.length 64, undef, undef, undef, undef, undef, undef, undef], defers := [] } ∧ W'.heap[bb]? = some (.cells (vrow 64 (blf m)) 72) ∧ GRow W' gp gl s l f f2 ∧ Below w.heap.size w W') ?_ ?_
  rotate_left
  · refine wp_region_held_drew (S := fun W' => W'.heap[w.heap.size]? = some (.cells (vrow 266 s.at) 37) ∧ W'.heap[D]? = some (.cells (vrow (n * 2) (spf px py)) 61) ∧ Below w.heap.size w W') (by kernel_rfl) ⟨drwP P.out, drwP L.out, hB.out.drew⟩ (fun hH => ?_)
    clear hB P L
    generalize World.drew _ = Wd at hH ⊢
    refine wpAnyH_take (i := 0) (v := (.slice (some ⟨D, 0, none⟩) n n)) rfl (by kernel_rfl) (by kernel_rfl) (by kernel_rfl) (fun _ _ _ h => by cases h.1) (.inl ⟨by kernel_rfl, fun w _ => by go_simp⟩) hH ?_
    (try simp only [List.getElem_toArray, List.getElem_cons_succ, List.getElem_cons_zero, Act.put, List.setIfInBounds_toArray, List.set_cons_succ, List.set_cons_zero])
    refine wpAnyH_take (i := 2) (v := (.agg (vrow 266 s.at))) rfl (by kernel_rfl) (by kernel_rfl) (by kernel_rfl) (fun _ _ _ h => by cases h.1) (yields_row (by kernel_rfl) 37 _ rfl w.heap.size rfl 266 s.at 37 _ Tryd.underlying37 rfl size_sheet (fun _ h => h.1)) hH ?_
    (try simp only [List.getElem_toArray, List.getElem_cons_succ, List.getElem_cons_zero, Act.put, List.setIfInBounds_toArray, List.set_cons_succ, List.set_cons_zero])
    refine wpAnyH_ready (rs := [1, 4]) (by kernel_rfl) (by simp) (AllReadyH.cons rfl (fun K hK => ?_) (AllReadyH.cons rfl (fun K hK => ?_) AllReadyH.nil))
    · rw [if_pos (by kernel_rfl)]
      go_simp
      go_at_call 37
      refine (HAO.out _ hH.2.1).mono ?_
      rintro o X1 ⟨rfl, hb⟩
      have hH1 : X1.heap[w.heap.size]? = some (.cells (vrow 266 s.at) 37) ∧ X1.heap[D]? = some (.cells (vrow (n * 2) (spf px py)) 61) ∧ Below w.heap.size w X1 := ⟨row_next hb hH.1, row_next hb hH.2.1, hH.2.2.trans (hb.mono hH.2.2.size)⟩
      clear hH hb
      refine hK.out _ _ hH1 (fun hH => ?_)
      clear hK K hH1
      (try simp only [List.getElem_toArray, List.getElem_cons_succ, List.getElem_cons_zero, Act.put, List.setIfInBounds_toArray, List.set_cons_succ, List.set_cons_zero])
      refine wpAnyH_ready (rs := [3, 4]) (by kernel_rfl) (by simp) (AllReadyH.cons rfl (fun K hK => ?_) (AllReadyH.cons rfl (fun K hK => ?_) AllReadyH.nil))
      · rw [if_pos (by kernel_rfl)]
        go_simp
        go_at_call 39
        refine (HGR.out _).mono ?_
        rintro o X2 ⟨gp, gl, rfl, hGM, hb⟩
        obtain ⟨f, f2, GR⟩ := hGM.rows
        clear hGM
        have hH1 : X2.heap[w.heap.size]? = some (.cells (vrow 266 s.at) 37) ∧ X2.heap[D]? = some (.cells (vrow (n * 2) (spf px py)) 61) ∧ Below w.heap.size w X2 := ⟨row_next hb hH.1, row_next hb hH.2.1, hH.2.2.trans (hb.mono hH.2.2.size)⟩
        clear hH hb
        refine hK.out _ _ hH1 (fun hH => ?_)
        clear hK K hH1
        (try simp only [List.getElem_toArray, List.getElem_cons_succ, List.getElem_cons_zero, Act.put, List.setIfInBounds_toArray, List.set_cons_succ, List.set_cons_zero])
        refine wpAnyH_ready (rs := [4]) (by kernel_rfl) (by simp) (AllReadyH.cons rfl (fun K hK => ?_) AllReadyH.nil)
        rw [if_pos (by kernel_rfl)]
        go_simp
        have n0 := row_lt hH.1; have n1 := row_lt hH.2.1
        have hsz := hH.2.2.size
        have R0 := heap_at X2 (.cells (vrow 64 (blf fun _ => false)) 72) _ rfl
        have hH2 : (X2.alloc (.cells (vrow 64 (blf fun _ => false)) 72)).heap[w.heap.size]? = some (.cells (vrow 266 s.at) 37) ∧ (X2.alloc (.cells (vrow 64 (blf fun _ => false)) 72)).heap[D]? = some (.cells (vrow (n * 2) (spf px py)) 61) ∧ Below w.heap.size w (X2.alloc (.cells (vrow 64 (blf fun _ => false)) 72)) := ⟨heap_past _ _ _ _ n0 hH.1, heap_past _ _ _ _ n1 hH.2.1, hH.2.2.alloc hH.2.2.size _⟩
        replace GR := GR.allocW (.cells (vrow 64 (blf fun _ => false)) 72)
        clear hH
        generalize X2.heap.size = bb at R0 n0 n1 hsz ⊢
        generalize X2.alloc _ = Wa at R0 hH2 GR ⊢
        have hH1 := hH2
        clear hH2
        refine hK.out _ _ hH1 (fun hH => ?_)
        clear hK K hH1
        (try simp only [List.getElem_toArray, List.getElem_cons_succ, List.getElem_cons_zero, Act.put, List.setIfInBounds_toArray, List.set_cons_succ, List.set_cons_zero])
        refine wpAnyH_ready (rs := [5]) (by kernel_rfl) (by simp) (AllReadyH.cons rfl (fun K hK => ?_) AllReadyH.nil)
        rw [if_pos (by kernel_rfl)]
        unfold Oper.wp
        rw [run_storemid 72 (.tmp 7) (.tmp 17) rfl bb 0 rfl 64 64 (blf fun _ => false) (blf m) rfl 72 size_ar R0 (by omega) (fun i _ => blf_one _ i), vrow_over_all, Oper.upon_skip]
        have q1 := gr_ne1A GR R0; have q2 := gr_ne2A GR R0
        replace GR := GR.setW (g := bb) q1 q2 (vrow 64 (blf m))
        have R1 := row_set R0 (vrow 64 (blf m))
        have hH1 := And.intro (row_set' (g := bb) (by omega) hH.1 (vrow 64 (blf m))) (And.intro (row_set' (g := bb) (by omega) hH.2.1 (vrow 64 (blf m))) (Below_setRow hH.2.2 (show w.heap.size ≤ bb by omega) (vrow 64 (blf m))))
        clear hH R0
        generalize World.setRow _ _ _ = Wb at hH1 R1 GR ⊢
        refine hK.out _ _ hH1 (fun hH => ?_)
        clear hK K hH1
        (try simp only [List.getElem_toArray, List.getElem_cons_succ, List.getElem_cons_zero, Act.put, List.setIfInBounds_toArray, List.set_cons_succ, List.set_cons_zero])
        refine wpAnyH_take (i := 6) (v := (.slice (some ⟨gp, 0, none⟩) l.length 64)) rfl (by kernel_rfl) (by kernel_rfl) (by kernel_rfl) (fun _ _ _ h => by cases h.1) (.inl ⟨by kernel_rfl, fun w _ => by go_simp⟩) hH ?_
        (try simp only [List.getElem_toArray, List.getElem_cons_succ, List.getElem_cons_zero, Act.put, List.setIfInBounds_toArray, List.set_cons_succ, List.set_cons_zero])
        refine wpAnyH_done (by kernel_rfl) ?_ _
        exact ⟨rfl, gp, gl, bb, f, f2, rfl, R1, GR, hH.2.2⟩
      · rw [if_pos (by kernel_rfl)]
        go_simp
        have n0 := row_lt hH.1; have n1 := row_lt hH.2.1
        have hsz := hH.2.2.size
        have R0 := heap_at X1 (.cells (vrow 64 (blf fun _ => false)) 72) _ rfl
        have hH2 : (X1.alloc (.cells (vrow 64 (blf fun _ => false)) 72)).heap[w.heap.size]? = some (.cells (vrow 266 s.at) 37) ∧ (X1.alloc (.cells (vrow 64 (blf fun _ => false)) 72)).heap[D]? = some (.cells (vrow (n * 2) (spf px py)) 61) ∧ Below w.heap.size w (X1.alloc (.cells (vrow 64 (blf fun _ => false)) 72)) := ⟨heap_past _ _ _ _ n0 hH.1, heap_past _ _ _ _ n1 hH.2.1, hH.2.2.alloc hH.2.2.size _⟩
        clear hH
        generalize X1.heap.size = bb at R0 n0 n1 hsz ⊢
        generalize X1.alloc _ = Wa at R0 hH2 ⊢
        have hH1 := hH2
        clear hH2
        refine hK.out _ _ hH1 (fun hH => ?_)
        clear hK K hH1
        (try simp only [List.getElem_toArray, List.getElem_cons_succ, List.getElem_cons_zero, Act.put, List.setIfInBounds_toArray, List.set_cons_succ, List.set_cons_zero])
        refine wpAnyH_ready (rs := [3]) (by kernel_rfl) (by simp) (AllReadyH.cons rfl (fun K hK => ?_) AllReadyH.nil)
        rw [if_pos (by kernel_rfl)]
        go_simp
        go_at_call 39
        refine (HGR.out _).mono ?_
        rintro o X2 ⟨gp, gl, rfl, hGM, hb⟩
        obtain ⟨f, f2, GR⟩ := hGM.rows
        clear hGM
        replace R0 := row_next hb R0
        have hH1 : X2.heap[w.heap.size]? = some (.cells (vrow 266 s.at) 37) ∧ X2.heap[D]? = some (.cells (vrow (n * 2) (spf px py)) 61) ∧ Below w.heap.size w X2 := ⟨row_next hb hH.1, row_next hb hH.2.1, hH.2.2.trans (hb.mono hH.2.2.size)⟩
        clear hH hb
        refine hK.out _ _ hH1 (fun hH => ?_)
        clear hK K hH1
        (try simp only [List.getElem_toArray, List.getElem_cons_succ, List.getElem_cons_zero, Act.put, List.setIfInBounds_toArray, List.set_cons_succ, List.set_cons_zero])
        refine wpAnyH_ready (rs := [5]) (by kernel_rfl) (by simp) (AllReadyH.cons rfl (fun K hK => ?_) AllReadyH.nil)
        rw [if_pos (by kernel_rfl)]
        unfold Oper.wp
        rw [run_storemid 72 (.tmp 7) (.tmp 17) rfl bb 0 rfl 64 64 (blf fun _ => false) (blf m) rfl 72 size_ar R0 (by omega) (fun i _ => blf_one _ i), vrow_over_all, Oper.upon_skip]
        have q1 := gr_ne1A GR R0; have q2 := gr_ne2A GR R0
        replace GR := GR.setW (g := bb) q1 q2 (vrow 64 (blf m))
        have R1 := row_set R0 (vrow 64 (blf m))
        have hH1 := And.intro (row_set' (g := bb) (by omega) hH.1 (vrow 64 (blf m))) (And.intro (row_set' (g := bb) (by omega) hH.2.1 (vrow 64 (blf m))) (Below_setRow hH.2.2 (show w.heap.size ≤ bb by omega) (vrow 64 (blf m))))
        clear hH R0
        generalize World.setRow _ _ _ = Wb at hH1 R1 GR ⊢
        refine hK.out _ _ hH1 (fun hH => ?_)
        clear hK K hH1
        (try simp only [List.getElem_toArray, List.getElem_cons_succ, List.getElem_cons_zero, Act.put, List.setIfInBounds_toArray, List.set_cons_succ, List.set_cons_zero])
        refine wpAnyH_take (i := 6) (v := (.slice (some ⟨gp, 0, none⟩) l.length 64)) rfl (by kernel_rfl) (by kernel_rfl) (by kernel_rfl) (fun _ _ _ h => by cases h.1) (.inl ⟨by kernel_rfl, fun w _ => by go_simp⟩) hH ?_
        (try simp only [List.getElem_toArray, List.getElem_cons_succ, List.getElem_cons_zero, Act.put, List.setIfInBounds_toArray, List.set_cons_succ, List.set_cons_zero])
        refine wpAnyH_done (by kernel_rfl) ?_ _
        exact ⟨rfl, gp, gl, bb, f, f2, rfl, R1, GR, hH.2.2⟩
    · rw [if_pos (by kernel_rfl)]
      go_simp
      have n0 := row_lt hH.1; have n1 := row_lt hH.2.1
      have hsz := hH.2.2.size
      have R0 := heap_at Wd (.cells (vrow 64 (blf fun _ => false)) 72) _ rfl
      have hH2 : (Wd.alloc (.cells (vrow 64 (blf fun _ => false)) 72)).heap[w.heap.size]? = some (.cells (vrow 266 s.at) 37) ∧ (Wd.alloc (.cells (vrow 64 (blf fun _ => false)) 72)).heap[D]? = some (.cells (vrow (n * 2) (spf px py)) 61) ∧ Below w.heap.size w (Wd.alloc (.cells (vrow 64 (blf fun _ => false)) 72)) := ⟨heap_past _ _ _ _ n0 hH.1, heap_past _ _ _ _ n1 hH.2.1, hH.2.2.alloc hH.2.2.size _⟩
      clear hH
      generalize Wd.heap.size = bb at R0 n0 n1 hsz ⊢
      generalize Wd.alloc _ = Wa at R0 hH2 ⊢
      have hH1 := hH2
      clear hH2
      refine hK.out _ _ hH1 (fun hH => ?_)
      clear hK K hH1
      (try simp only [List.getElem_toArray, List.getElem_cons_succ, List.getElem_cons_zero, Act.put, List.setIfInBounds_toArray, List.set_cons_succ, List.set_cons_zero])
      refine wpAnyH_ready (rs := [1]) (by kernel_rfl) (by simp) (AllReadyH.cons rfl (fun K hK => ?_) AllReadyH.nil)
      rw [if_pos (by kernel_rfl)]
      go_simp
      go_at_call 37
      refine (HAO.out _ hH.2.1).mono ?_
      rintro o X1 ⟨rfl, hb⟩
      replace R0 := row_next hb R0
      have hH1 : X1.heap[w.heap.size]? = some (.cells (vrow 266 s.at) 37) ∧ X1.heap[D]? = some (.cells (vrow (n * 2) (spf px py)) 61) ∧ Below w.heap.size w X1 := ⟨row_next hb hH.1, row_next hb hH.2.1, hH.2.2.trans (hb.mono hH.2.2.size)⟩
      clear hH hb
      refine hK.out _ _ hH1 (fun hH => ?_)
      clear hK K hH1
      (try simp only [List.getElem_toArray, List.getElem_cons_succ, List.getElem_cons_zero, Act.put, List.setIfInBounds_toArray, List.set_cons_succ, List.set_cons_zero])
      refine wpAnyH_ready (rs := [3]) (by kernel_rfl) (by simp) (AllReadyH.cons rfl (fun K hK => ?_) AllReadyH.nil)
      rw [if_pos (by kernel_rfl)]
      go_simp
      go_at_call 39
      refine (HGR.out _).mono ?_
      rintro o X2 ⟨gp, gl, rfl, hGM, hb⟩
      obtain ⟨f, f2, GR⟩ := hGM.rows
      clear hGM
      replace R0 := row_next hb R0
      have hH1 : X2.heap[w.heap.size]? = some (.cells (vrow 266 s.at) 37) ∧ X2.heap[D]? = some (.cells (vrow (n * 2) (spf px py)) 61) ∧ Below w.heap.size w X2 := ⟨row_next hb hH.1, row_next hb hH.2.1, hH.2.2.trans (hb.mono hH.2.2.size)⟩
      clear hH hb
      refine hK.out _ _ hH1 (fun hH => ?_)
      clear hK K hH1
      (try simp only [List.getElem_toArray, List.getElem_cons_succ, List.getElem_cons_zero, Act.put, List.setIfInBounds_toArray, List.set_cons_succ, List.set_cons_zero])
      refine wpAnyH_ready (rs := [5]) (by kernel_rfl) (by simp) (AllReadyH.cons rfl (fun K hK => ?_) AllReadyH.nil)
      rw [if_pos (by kernel_rfl)]
      unfold Oper.wp
      rw [run_storemid 72 (.tmp 7) (.tmp 17) rfl bb 0 rfl 64 64 (blf fun _ => false) (blf m) rfl 72 size_ar R0 (by omega) (fun i _ => blf_one _ i), vrow_over_all, Oper.upon_skip]
      have q1 := gr_ne1A GR R0; have q2 := gr_ne2A GR R0
      replace GR := GR.setW (g := bb) q1 q2 (vrow 64 (blf m))
      have R1 := row_set R0 (vrow 64 (blf m))
      have hH1 := And.intro (row_set' (g := bb) (by omega) hH.1 (vrow 64 (blf m))) (And.intro (row_set' (g := bb) (by omega) hH.2.1 (vrow 64 (blf m))) (Below_setRow hH.2.2 (show w.heap.size ≤ bb by omega) (vrow 64 (blf m))))
      clear hH R0
      generalize World.setRow _ _ _ = Wb at hH1 R1 GR ⊢
      refine hK.out _ _ hH1 (fun hH => ?_)
      clear hK K hH1
      (try simp only [List.getElem_toArray, List.getElem_cons_succ, List.getElem_cons_zero, Act.put, List.setIfInBounds_toArray, List.set_cons_succ, List.set_cons_zero])
      refine wpAnyH_take (i := 6) (v := (.slice (some ⟨gp, 0, none⟩) l.length 64)) rfl (by kernel_rfl) (by kernel_rfl) (by kernel_rfl) (fun _ _ _ h => by cases h.1) (.inl ⟨by kernel_rfl, fun w _ => by go_simp⟩) hH ?_
      (try simp only [List.getElem_toArray, List.getElem_cons_succ, List.getElem_cons_zero, Act.put, List.setIfInBounds_toArray, List.set_cons_succ, List.set_cons_zero])
      refine wpAnyH_done (by kernel_rfl) ?_ _
      exact ⟨rfl, gp, gl, bb, f, f2, rfl, R1, GR, hH.2.2⟩
  rintro ex a' W' ⟨rfl, gp, gl, bb, f, f2, rfl, R, GR, hb⟩
  go_wp2
  have HEQ : ∀ w : World, (Op.equal 72 (.agg (vrow 64 (blf q))) (.agg (vrow 64 (blf m)))).run Tryd.prog w = .ok (eqS q m) w := fun w => eqar_any _ q m w
  have hg : Tryd.prog.eqGuardType Tryd.prog.depth 72 = false := by kernel_rfl
  refine Code.wp_mono (Q := fun ex a' W' => ex = .normal ∧ a' = { tmps := #[.agg s.row, .slice (some ⟨D, 0, none⟩) n n, .pointer (some ⟨w.heap.size, 0, none⟩), undef, .bool (eqS q m), .int .i64 0, .nilIface, .pointer (some ⟨bb, 0, none⟩), .slice (some ⟨gp, 0, none⟩) l.length 64, .agg (vrow 266 s.at), .slice (some ⟨D, 0, none⟩) n n, .nilIface, .nilIface, .bool false, undef, undef, .slice (some ⟨D, 0, none⟩) n n, .agg (vrow 64 (blf m)), .agg (vrow 266 s.at), .slice (some ⟨gp, 0, none⟩) l.length 64, .agg (vrow 64 (blf m)), .slice (some ⟨gp, 0, none⟩) l.length 64, .agg (vrow 64 (blf r)), .slice (some ⟨gp, 0, none⟩) l.length 64, .agg (vrow 64 (blf q)), .agg (vrow 64 (blf m)), .bool (eqS q m)], defers := [] } ∧ Below w.heap.size w W') ?_ ?_
  rotate_left
  · refine wp_region_held_drew (S := fun W' => W'.heap[bb]? = some (.cells (vrow 64 (blf m)) 72) ∧ GRow W' gp gl s l f f2 ∧ Below w.heap.size w W') (by kernel_rfl) ⟨drwP R, GR.drewW, hb.drew⟩ (fun hH => ?_)
    clear hb R GR
    generalize World.drew _ = Wd at hH ⊢
    refine wpAnyH_take (i := 0) (v := (.agg (vrow 64 (blf m)))) rfl (by kernel_rfl) (by kernel_rfl) (by kernel_rfl) (fun _ _ _ h => by cases h.1) (yields_row (by kernel_rfl) 72 _ rfl bb rfl 64 (blf m) 72 _ Tryd.underlying72 rfl size_ar (fun _ h => h.1)) hH ?_
    (try simp only [List.getElem_toArray, List.getElem_cons_succ, List.getElem_cons_zero, Act.put, List.setIfInBounds_toArray, List.set_cons_succ, List.set_cons_zero])
    refine wpAnyH_take (i := 1) (v := (.slice (some ⟨gp, 0, none⟩) l.length 64)) rfl (by kernel_rfl) (by kernel_rfl) (by kernel_rfl) (fun _ _ _ h => by cases h.1) (.inl ⟨by kernel_rfl, fun w _ => by go_simp⟩) hH ?_
    (try simp only [List.getElem_toArray, List.getElem_cons_succ, List.getElem_cons_zero, Act.put, List.setIfInBounds_toArray, List.set_cons_succ, List.set_cons_zero])
    refine wpAnyH_take (i := 3) (v := (.slice (some ⟨gp, 0, none⟩) l.length 64)) rfl (by kernel_rfl) (by kernel_rfl) (by kernel_rfl) (fun _ _ _ h => by cases h.1) (.inl ⟨by kernel_rfl, fun w _ => by go_simp⟩) hH ?_
    (try simp only [List.getElem_toArray, List.getElem_cons_succ, List.getElem_cons_zero, Act.put, List.setIfInBounds_toArray, List.set_cons_succ, List.set_cons_zero])
    refine wpAnyH_take (i := 5) (v := (.agg (vrow 64 (blf m)))) rfl (by kernel_rfl) (by kernel_rfl) (by kernel_rfl) (fun _ _ _ h => by cases h.1) (yields_row (by kernel_rfl) 72 _ rfl bb rfl 64 (blf m) 72 _ Tryd.underlying72 rfl size_ar (fun _ h => h.1)) hH ?_
    (try simp only [List.getElem_toArray, List.getElem_cons_succ, List.getElem_cons_zero, Act.put, List.setIfInBounds_toArray, List.set_cons_succ, List.set_cons_zero])
    refine wpAnyH_ready (rs := [2]) (by kernel_rfl) (by simp) (AllReadyH.cons rfl (fun K hK => ?_) AllReadyH.nil)
    rw [if_pos (by kernel_rfl)]
    go_simp
    go_at_call 43
    refine (HIN.out _ _ _ _ _ hH.2.1).mono ?_
    rintro o X3 ⟨rfl, hb⟩
    have hH1 : X3.heap[bb]? = some (.cells (vrow 64 (blf m)) 72) ∧ GRow X3 gp gl s l f f2 ∧ Below w.heap.size w X3 := ⟨row_next hb hH.1, hH.2.1.nextW hb, hH.2.2.trans (hb.mono hH.2.2.size)⟩
    clear hH hb
    refine hK.out _ _ hH1 (fun hH => ?_)
    clear hK K hH1
    (try simp only [List.getElem_toArray, List.getElem_cons_succ, List.getElem_cons_zero, Act.put, List.setIfInBounds_toArray, List.set_cons_succ, List.set_cons_zero])
    refine wpAnyH_ready (rs := [4]) (by kernel_rfl) (by simp) (AllReadyH.cons rfl (fun K hK => ?_) AllReadyH.nil)
    rw [if_pos (by kernel_rfl)]
    go_simp
    go_at_call 38
    refine (HSP.out _ _ _ _ _ hH.2.1).mono ?_
    rintro o X4 ⟨rfl, hb⟩
    have hH1 : X4.heap[bb]? = some (.cells (vrow 64 (blf m)) 72) ∧ GRow X4 gp gl s l f f2 ∧ Below w.heap.size w X4 := ⟨row_next hb hH.1, hH.2.1.nextW hb, hH.2.2.trans (hb.mono hH.2.2.size)⟩
    clear hH hb
    refine hK.out _ _ hH1 (fun hH => ?_)
    clear hK K hH1
    (try simp only [List.getElem_toArray, List.getElem_cons_succ, List.getElem_cons_zero, Act.put, List.setIfInBounds_toArray, List.set_cons_succ, List.set_cons_zero])
    refine wpAnyH_take (i := 6) (v := (.bool (eqS q m))) rfl (by kernel_rfl) (by kernel_rfl) (by kernel_rfl) (fun _ _ _ h => by cases h.1) (.inl ⟨by kernel_rfl, fun w _ => by simp [execOp, Go.binOp, HEQ, eqGuard, hg, Act.eval]⟩) hH ?_
    (try simp only [List.getElem_toArray, List.getElem_cons_succ, List.getElem_cons_zero, Act.put, List.setIfInBounds_toArray, List.set_cons_succ, List.set_cons_zero])
    refine wpAnyH_take (i := 7) (v := (.bool (eqS q m))) rfl (by kernel_rfl) (by kernel_rfl) (by kernel_rfl) (fun _ _ _ h => by cases h.1) (.inl ⟨by kernel_rfl, fun w _ => by go_simp⟩) hH ?_
    (try simp only [List.getElem_toArray, List.getElem_cons_succ, List.getElem_cons_zero, Act.put, List.setIfInBounds_toArray, List.set_cons_succ, List.set_cons_zero])
    refine wpAnyH_take (i := 8) (v := (.int .i64 0)) rfl (by kernel_rfl) (by kernel_rfl) (by kernel_rfl) (fun _ _ _ h => by cases h.1) (.inl ⟨by kernel_rfl, fun w _ => by go_simp⟩) hH ?_
    (try simp only [List.getElem_toArray, List.getElem_cons_succ, List.getElem_cons_zero, Act.put, List.setIfInBounds_toArray, List.set_cons_succ, List.set_cons_zero])
    refine wpAnyH_done (by kernel_rfl) ?_ _
    exact ⟨rfl, rfl, hH.2.2⟩
  rintro ex a' W2 ⟨rfl, rfl, hb2⟩
  go_wp2
  go_ret2
  exact ⟨rfl, hb2⟩
end Go.Proofs.YthienbbecbakjaaDoor
namespace Go.Proofs.YthienbbecbakjaaDoor
open Go.RowKit
set_option maxRecDepth 100000
set_option linter.unusedVariables false
set_option linter.unusedSimpArgs false
theorem rw_b88 : (Tryd.prog.underlying 52).map (·.isRow) = some true := by kernel_rfl
set_option maxHeartbeats 4000000 in
theorem lhas_any (s : Sh) (b bi : Nat) (f : Nat → Bool) (w : World) (ho : okI s = true) (hf : s.fit) (h1 : w.heap[b]? = some (.cells (vrow 266 s.at) 37)) (h2 : w.heap[bi]? = some (.cells (vrow 64 (blf f)) 52)) : Calls Tryd.prog 46 #[.pointer (some ⟨b, 0, none⟩), .pointer (some ⟨bi, 0, none⟩)] w fun e w' => e = .returned (.bool (eqS (mspr s (allL (minn s f (allL f))) (minn s f (allL f))) f)) ∧ Below w.heap.size w w' := by
  have HN := Go.Lib.hid fun w h1 h2 => linn_any s b bi f w ho hf h1 h2
  generalize minn s f (allL f) = r at *
  have HP := Go.Lib.hid fun v w h1 h2 => lspr_any s b v r w ho hf h1 h2
  generalize mspr s (allL r) r = q at *
  clear ho hf
  have zb := zero_b88
  have P := Go.Lib.hid h1; have I := Go.Lib.hid h2; have hB := Go.Lib.hid (Below.refl w.heap.size w)
  clear h1 h2
  go_enter Tryd.func46, Tryd.ntmps46
  go_wp2_with (first
    | go_skip
    | (go_at_call 41; (refine (HN.out _ P.out I.out).mono ?_); rintro o w1 ⟨rfl, hb⟩; replace P := Go.Lib.hid (row_next hb P.out); replace I := Go.Lib.hid (row_next hb I.out); replace hB := Go.Lib.hid (below_next hB.out hb); clear hb)
    | ((with_reducible refine wlOp (.store 52 (.tmp 5) (.tmp 8)) rfl ?_); refine wpList_storeall rfl 52 (.tmp 5) (.tmp 8) rfl _ rfl 64 (blf fun _ => false) (blf r) rfl 52 size_b88 (heap_at _ _ _ rfl) (fun i _ => blf_one _ i) ?_; rw [setRow_at _ _ _ _ _ rfl]; have V := Go.Lib.hid (heap_at w1 (.cells (vrow 64 (blf r)) 52) _ rfl); have nP := row_lt P.out; have nI := row_lt I.out; replace P := Go.Lib.hid (heap_past _ (.cells (vrow 64 (blf r)) 52) _ _ nP P.out); replace I := Go.Lib.hid (heap_past _ (.cells (vrow 64 (blf r)) 52) _ _ nI I.out); replace hB := Go.Lib.hid (hB.out.alloc hB.out.size (.cells (vrow 64 (blf r)) 52)); generalize w1.heap.size = vb at V nP nI ⊢; generalize w1.alloc _ = w1' at V P I hB ⊢))
  refine region_at (by kernel_rfl) (by kernel_rfl) ?_
  intro W hW
  rw [hW] at hB P I V
  clear hW
  have I' := Go.Lib.hid (cls_row' I.out)
  (try simp only [Act.put, List.setIfInBounds_toArray, List.set_cons_succ, List.set_cons_zero])
  have HEQ : ∀ w : World, (Op.equal 52 (.agg (vrow 64 (blf q))) (.agg (vrow 64 (blf f)))).run Tryd.prog w = .ok (eqS q f) w := fun w => eq88_any _ q f w
  (repeat (first
    | go_big_quiet_skip
    | (refine wpQuiet_loadmid 52 (.tmp 12) rfl (by first | exact want_n rfl | exact want_g _ _ _ rfl rfl rfl) bi _ rfl 64 64 (blf f) _ rw_b88 size_b88 I'.out (by omega) ?_; simp only [Nat.zero_add]; simp only [Act.put, List.setIfInBounds_toArray, List.set_cons_succ, List.set_cons_zero])
    | go_big_quiet_step ((go_at_call 26; exact cls_call _ (fun w hw => HP.out vb w (row_next hw P.out) (row_next hw V.out))))))
  refine wpQuiet_step fun K hK => ?_
  rw [if_pos (by kernel_rfl)]
  refine ⟨.bool (eqS q f), fun w _ => ?_, hK _ ?_⟩
  · unfold Oper.quietAt
    have hg : Tryd.prog.eqGuardType Tryd.prog.depth 52 = false := by kernel_rfl
    simp [execOp, Go.binOp, HEQ, eqGuard, hg, Act.eval, Oper.quietUpon]
  (try simp only [Act.put, List.setIfInBounds_toArray, List.set_cons_succ, List.set_cons_zero])
  (first | go_big_quiet_skip | go_big_quiet_step (fail))
  refine wpQuiet_nil ?_
  intro Wn hb
  replace hB := Go.Lib.hid (below_next hB.out hb)
  clear hb I'
  go_wp2
  go_ret
  exact ⟨rfl, hB.out⟩
end Go.Proofs.YthienbbecbakjaaDoor
namespace Go.Proofs.YthienbbecbakjaaDoor
open Go.RowKit
set_option maxRecDepth 100000
set_option linter.unusedVariables false
set_option linter.unusedSimpArgs false
set_option maxHeartbeats 2000000 in
theorem lhfr_bad (s : Sh) (D n k : Nat) (px py : Nat → Int) (w : World) (hk : k = 1 ∨ k = 2 ∨ k = 4) (h2 : w.heap[D]? = some (.cells (vrow (n * 2) (spf px py)) 61)) (HA0 : ∀ b w, w.heap[b]? = some (.cells (vrow 266 s.at) 37) → w.heap[D]? = some (.cells (vrow (n * 2) (spf px py)) 61) → Calls Tryd.prog 44 #[.pointer (some ⟨b, 0, none⟩), .slice (some ⟨D, 0, none⟩) n n] w fun e w' => e = .returned (.int .i64 k) ∧ Below w.heap.size w w') : Calls Tryd.prog 20 #[.agg s.row, .slice (some ⟨D, 0, none⟩) n n] w fun e w' => e = .returned (.tuple #[.bool false, .int .i64 k]) ∧ Below w.heap.size w w' := by
  have HA := Go.Lib.hid HA0
  clear HA0
  have hk1 : ((k : Int) == 0) = false := by rcases hk with rfl | rfl | rfl <;> rfl
  have hk2 : (!((k : Int) == 0)) = true := by rw [hk1]; rfl
  have hk3 : ((k : Int) != 0) = true := by rcases hk with rfl | rfl | rfl <;> rfl
  have P : Hid ((w.alloc (.cells (vrow 266 s.at) 37)).heap[w.heap.size]? = some (.cells (vrow 266 s.at) 37)) := heap_at _ _ _ (by simp)
  have L : Hid ((w.alloc (.cells (vrow 266 s.at) 37)).heap[D]? = some (.cells (vrow (n * 2) (spf px py)) 61)) := heap_past _ _ _ _ (row_lt h2) h2
  have hB : Hid (Below w.heap.size w (w.alloc (.cells (vrow 266 s.at) 37))) := Go.Lib.hid ((Below.refl w.heap.size w).alloc (by simp <;> omega) _)
  clear h2
  have zb := zero_b88
  go_enter Tryd.func20, Tryd.ntmps20
  go_wp2_with (first
    | go_skip
    | (go_at_call 44; (refine (HA.out _ _ P.out L.out).mono ?_); rintro o w1 ⟨rfl, hb⟩; replace P := Go.Lib.hid (row_next hb P.out); replace L := Go.Lib.hid (row_next hb L.out); replace hB := Go.Lib.hid (below_next hB.out hb); clear hb))
  go_ret2
  exact ⟨rfl, hB.out⟩
set_option maxHeartbeats 4000000 in
theorem lhfr_ok (s : Sh) (D n : Nat) (px py : Nat → Int) (f : Nat → Bool) (w : World) (hn : n ≤ 1048576) (hf : s.fit) (ho : okI s = true) (hin : insL s px py n = true) (hfe : mkA px py n = f) (h2 : w.heap[D]? = some (.cells (vrow (n * 2) (spf px py)) 61)) (HA0 : ∀ b w, w.heap[b]? = some (.cells (vrow 266 s.at) 37) → w.heap[D]? = some (.cells (vrow (n * 2) (spf px py)) 61) → Calls Tryd.prog 44 #[.pointer (some ⟨b, 0, none⟩), .slice (some ⟨D, 0, none⟩) n n] w fun e w' => e = .returned (.int .i64 0) ∧ Below w.heap.size w w') : Calls Tryd.prog 20 #[.agg s.row, .slice (some ⟨D, 0, none⟩) n n] w fun e w' => e = .returned (.tuple #[.bool (eqS (mspr s (allL (minn s f (allL f))) (minn s f (allL f))) f), .int .i64 0]) ∧ Below w.heap.size w w' := by
  have HA := Go.Lib.hid HA0
  have HM : Hid (∀ w, w.heap[D]? = some (.cells (vrow (n * 2) (spf px py)) 61) → Calls Tryd.prog 45 #[.slice (some ⟨D, 0, none⟩) n n] w fun e w' => e = .returned (.agg (vrow 64 (blf f))) ∧ Below w.heap.size w w') := Go.Lib.hid fun w h2 => by have h := lmask_any px py D n w hn (insL_in8 ho hin) h2; rw [hfe] at h; exact h
  have HH := Go.Lib.hid fun b bi w h1 h2 => lhas_any s b bi f w ho hf h1 h2
  clear HA0 hfe ho hf hin
  generalize eqS (mspr s (allL (minn s f (allL f))) (minn s f (allL f))) f = q at *
  have P : Hid ((w.alloc (.cells (vrow 266 s.at) 37)).heap[w.heap.size]? = some (.cells (vrow 266 s.at) 37)) := heap_at _ _ _ (by simp)
  have L : Hid ((w.alloc (.cells (vrow 266 s.at) 37)).heap[D]? = some (.cells (vrow (n * 2) (spf px py)) 61)) := heap_past _ _ _ _ (row_lt h2) h2
  have hB : Hid (Below w.heap.size w (w.alloc (.cells (vrow 266 s.at) 37))) := Go.Lib.hid ((Below.refl w.heap.size w).alloc (by simp <;> omega) _)
  clear h2
  have zb := zero_b88
  go_enter Tryd.func20, Tryd.ntmps20
  go_wp2_with (first
    | go_skip
    | (go_at_call 44; (refine (HA.out _ _ P.out L.out).mono ?_); rintro o w1 ⟨rfl, hb⟩; replace P := Go.Lib.hid (row_next hb P.out); replace L := Go.Lib.hid (row_next hb L.out); replace hB := Go.Lib.hid (below_next hB.out hb); clear hb)
    | (go_at_call 45; (refine (HM.out _ L.out).mono ?_); rintro o w2 ⟨rfl, hb⟩; replace P := Go.Lib.hid (row_next hb P.out); replace L := Go.Lib.hid (row_next hb L.out); replace hB := Go.Lib.hid (below_next hB.out hb); clear hb L)
    | ((with_reducible refine wlOp (.store 52 (.tmp 7) (.tmp 14)) rfl ?_); refine wpList_storeall rfl 52 (.tmp 7) (.tmp 14) rfl _ rfl 64 (blf fun _ => false) (blf f) rfl 52 size_b88 (heap_at _ _ _ rfl) (fun i _ => blf_one _ i) ?_; rw [setRow_at _ _ _ _ _ rfl]; have V := Go.Lib.hid (heap_at w2 (.cells (vrow 64 (blf f)) 52) _ rfl); have nP := row_lt P.out; replace P := Go.Lib.hid (heap_past _ (.cells (vrow 64 (blf f)) 52) _ _ nP P.out); replace hB := Go.Lib.hid (hB.out.alloc hB.out.size (.cells (vrow 64 (blf f)) 52)); generalize w2.heap.size = vb at V ⊢; generalize w2.alloc _ = w2' at V P hB ⊢)
    | (go_at_call 46; (refine (HH.out _ _ _ P.out V.out).mono ?_); rintro o w3 ⟨rfl, hb⟩; replace hB := Go.Lib.hid (below_next hB.out hb); clear hb))
  go_ret2
  exact ⟨rfl, hB.out⟩
end Go.Proofs.YthienbbecbakjaaDoor
namespace Go.Proofs.YthienbbecbakjaaDoor
open Go.RowKit
set_option maxRecDepth 100000
set_option linter.unusedVariables false
set_option linter.unusedSimpArgs false
theorem waxL_no {s : Sh} {px py : Nat → Int} {n : Nat} (hw : waxL s px py n = false) (k : Nat) (hk : k < n) : waxB s (px k).toNat (py k).toNat = false := by
  cases h : waxB s (px k).toNat (py k).toNat
  · rfl
  · have : waxL s px py n = true := anyN_some (pb := fun i => waxB s (px i).toNat (py i).toNat) h n hk
    rw [hw] at this; cases this
theorem mkA_free {s : Sh} (hok : okI s = true) {px py : Nat → Int} {n : Nat} (hin : insL s px py n = true) (hw : waxL s px py n = false) : inFree s (mkA px py n) := fun p hp => by
  obtain ⟨k, hk, e⟩ := (mkA_val n _).1 hp
  obtain ⟨x, y, ex, ey, hx, hy⟩ := insL_in8 hok hin k hk
  have hh := insL_all n hin k hk
  have h0 := waxL_no hw k hk
  rw [ex, ey, Int.toNat_natCast, Int.toNat_natCast] at e h0
  rw [ex, ey] at hh
  have hpx := p.2.1; have hpy := p.2.2
  unfold pix at e
  have e1 : p.1.1 = x := by omega
  have e2 : p.1.2 = y := by omega
  unfold freeB
  rw [Int.toNat_natCast, Int.toNat_natCast, e1, e2, hh, h0]
  rfl
theorem plA_again {s : Sh} {a c : Nat} (ha : a ≤ 8) (hc : c ≤ 8) (pb : Sp8 → Bool) : agr (plA (dryL s (cellsL a c)) pb) (plA (dryL s (cellsL a c)) fun p => plA (dryL s (cellsL a c)) pb (pix p)) := fun i hi => by
  rw [plA_agr ha hc _ i hi, plA_agr ha hc _ i hi]
  refine agr_tt ?_
  rw [plF_mem, plF_mem]
  constructor
  · rintro ⟨p, hp, rfl, h⟩
    refine ⟨p, hp, rfl, ?_⟩
    rw [plA_agr ha hc _ _ (pix_lt p)]
    exact plF_mem.2 ⟨p, hp, rfl, h⟩
  · rintro ⟨p, hp, rfl, h⟩
    rw [plA_agr ha hc _ _ (pix_lt p)] at h
    obtain ⟨q, hq, e, h2⟩ := plF_mem.1 h
    exact ⟨q, hq, e, h2⟩
/-- the model's answer to HasForerunner is the program's -/
theorem hfr_eq {s : Sh} {a c : Nat} (hok : okI s = true) (ea : s.wide = a) (ec : s.high = c) (ha : a ≤ 8) (hc : c ≤ 8) {m : Nat → Bool} (hm : inFree s m) : eqS (mspr s (allL (minn s m (allL m))) (minn s m (allL m))) m = eqS (sprI s (dryL s (cellsL a c)) (plA (dryL s (cellsL a c)) (innP s m)) 1) m := by
  have h1 : agr (minn s m (allL m)) (plA (dryL s (cellsL a c)) (innP s m)) := inn_eq ea ec ha hc hm (fun _ _ => rfl)
  have h2 : agr (minn s m (allL m)) (plA (dryL s (cellsL a c)) fun p => plA (dryL s (cellsL a c)) (innP s m) (pix p)) := fun i hi => (h1 i hi).trans (plA_again ha hc _ i hi)
  exact eqS_agr (it_eq hok ea ec ha hc h2 1).1 (fun _ _ => rfl)
end Go.Proofs.YthienbbecbakjaaDoor
