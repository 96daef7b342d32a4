import Derived.Deep.RegionHeld3
import Derived.Test.YtfkialifnkfgcaaDoorPathV
import Derived.Test.YtfkialifnkfgcaaDoorWax2
import Derived.Test.YtfkialifnkfgcaaDoorDark
import Derived.Test.YtfkialifnkfgcaaDoorCodeOf
import Derived.Test.YtfkialifnkfgcaaDoorQT
import Derived.Test.YtfkialifnkfgcaaDoorG1
namespace Go.Proofs.YtfkialifnkfgcaaDoor
open Go.RowKit
set_option maxRecDepth 100000
set_option linter.unusedVariables false
set_option linter.unusedSimpArgs false
theorem spf_x (px py : Nat → Int) (k : Nat) : spf px py (k * 2) = .int .i8 (px k) := by unfold spf; rw [if_pos (by omega), show k * 2 / 2 = k by omega]
theorem spf_y (px py : Nat → Int) (k : Nat) : spf px py (k * 2 + 1) = .int .i8 (py k) := by unfold spf; rw [if_neg (by omega), show (k * 2 + 1) / 2 = k by omega]
theorem sp_row' (x y : Int) : vrow 2 (spAt x y) = #[.int .i8 x, .int .i8 y] := rfl
theorem onB_bd (r : Int) (x : Nat) : 0 ≤ onB r x ∧ onB r x ≤ 255 := by
  have h : ∀ z : Int, 0 ≤ IntKind.u8.wrap z ∧ IntKind.u8.wrap z ≤ 255 := fun z => by rw [IntKind.wrap_u8]; omega
  exact h _
/-- the sheet where the first k cells of a path have been waxed -/
def wxS (s : Sh) (px py : Nat → Int) : Nat → Sh
  | 0 => s
  | k + 1 => (wxS s px py k).setWax (py k).toNat (onB ((wxS s px py k).wax (py k).toNat) (px k).toNat)
theorem wxS_same (s : Sh) (px py : Nat → Int) : ∀ k, (wxS s px py k).wet = s.wet ∧ (wxS s px py k).dye = s.dye ∧ (wxS s px py k).wide = s.wide ∧ (wxS s px py k).high = s.high
  | 0 => ⟨rfl, rfl, rfl, rfl⟩
  | k + 1 => wxS_same s px py k
theorem wxS_fit (s : Sh) (px py : Nat → Int) (hf : s.fit) : ∀ k, (wxS s px py k).fit
  | 0 => hf
  | k + 1 => by
    have ih := wxS_fit s px py hf k
    refine ⟨ih.wide, ih.high, ih.wet, ih.dye, fun i hi => ?_⟩
    show 0 ≤ (if i = _ then _ else _) ∧ (if i = _ then _ else _) ≤ 255
    split
    · exact onB_bd _ _
    · exact ih.wax i hi
theorem wx_dark (s : Sh) (px py : Nat → Int) (k x y : Nat) : darkB (wxS s px py k) x y = darkB s x y := by unfold darkB; rw [(wxS_same s px py k).2.1]
theorem wx_bare (s : Sh) (px py : Nat → Int) (k x y : Nat) : bareB (wxS s px py k) x y = bareB s x y := by unfold bareB; rw [(wxS_same s px py k).1, (wxS_same s px py k).2.1]
theorem bare_iff (s : Sh) (x y : Nat) (hok : okI s = true) (hx : x < 8) (hy : y < 8) : bareB s x y = (decide (s.wet (8 * y + x) = 0) && decide (darkB s x y = 0)) := by
  obtain ⟨⟨w1, w2⟩, q0, q1, q2⟩ := ok_bounds s hok x y hx hy
  unfold bareB darkB
  generalize s.wet (8 * y + x) = a at *
  generalize s.dye (24 * y + 3 * x) = b at *
  generalize s.dye (24 * y + 3 * x + 1) = c at *
  generalize s.dye (24 * y + 3 * x + 2) = d at *
  rw [Bool.eq_iff_iff]
  simp
  omega
theorem path_cell {s : Sh} (hok : okI s = true) {px py : Nat → Int} {n : Nat} (hp : pathU s px py n = true) {k : Nat} (hk : k < n) : ∃ x y : Nat, px k = x ∧ py k = y ∧ x < 8 ∧ y < 8 := by
  have hh : hasB s (px k) (py k) = true := by
    cases h : hasB s (px k) (py k)
    · have := pathU_no s px py k n hk (by rw [h]; rfl)
      rw [this] at hp; cases hp
    · rfl
  exact ok_hasP s hok _ _ hh
/-- all of the first k cells of a path are bare -/
def wxOk (s : Sh) (px py : Nat → Int) : Nat → Bool
  | 0 => true
  | k + 1 => wxOk s px py k && bareB s (px k).toNat (py k).toNat
def wxR (s : Sh) (px py : Nat → Int) (n : Nat) : Sh := if wxOk s px py n then wxS s px py n else Sh.zero
def wxC (s : Sh) (px py : Nat → Int) (n : Nat) : Int := if wxOk s px py n then 0 else 4
theorem wx_yes {s : Sh} {px py : Nat → Int} {n : Nat} (h : wxOk s px py n = true) : wxR s px py n = wxS s px py n ∧ wxC s px py n = 0 := by unfold wxR wxC; rw [h]; exact ⟨rfl, rfl⟩
theorem wx_not {s : Sh} {px py : Nat → Int} {n : Nat} (h : wxOk s px py n = false) : wxR s px py n = Sh.zero ∧ wxC s px py n = 4 := by unfold wxR wxC; rw [h]; exact ⟨rfl, rfl⟩
theorem wxOk_no (s : Sh) (px py : Nat → Int) (k : Nat) (h : bareB s (px k).toNat (py k).toNat = false) : ∀ n, k < n → wxOk s px py n = false
  | 0, hk => by omega
  | n + 1, hk => by
    by_cases e : k = n
    · subst e
      show (_ && bareB s (px k).toNat (py k).toNat) = false
      rw [h, Bool.and_false]
    · show (wxOk s px py n && _) = false
      rw [wxOk_no s px py k h n (by omega), Bool.false_and]
set_option maxHeartbeats 2000000 in
theorem specWx_bad (s : Sh) (D n : Nat) (px py : Nat → Int) (w : World) (hf : s.fit) (hn : n ≤ 1048576) (hD : w.heap[D]? = some (.cells (vrow (n * 2) (spf px py)) 73)) (ho : okI s = false) : Calls Tryd.prog 26 #[.agg s.row, .slice (some ⟨D, 0, none⟩) n n] w fun o w' => o = .returned (.tuple #[.agg Sh.zero.row, .int .i64 1]) ∧ Below w.heap.size w w' := by
  have HO0 := fun b w hs => ok_any s b w hs hf
  rw [← ok_eq s hf, ho] at HO0
  have HO := Go.Lib.hid HO0
  clear HO0 ho
  have zz := zero_sheet
  have hB : Hid (Below w.heap.size w ((w.alloc (.cells (vrow 266 s.at) 32)).alloc (.cells (vrow 266 Sh.zero.at) 32))) := (((Below.refl w.heap.size w).alloc (by simp <;> omega) _).alloc (by simp <;> omega) _)
  have P : Hid (((w.alloc (.cells (vrow 266 s.at) 32)).alloc (.cells (vrow 266 Sh.zero.at) 32)).heap[w.heap.size]? = some (.cells (vrow 266 s.at) 32)) := heap_past _ _ _ _ (by first | omega | (simp <;> omega)) (heap_at _ _ _ (by simp))
  have Z : Hid (((w.alloc (.cells (vrow 266 s.at) 32)).alloc (.cells (vrow 266 Sh.zero.at) 32)).heap[w.heap.size + 1]? = some (.cells (vrow 266 Sh.zero.at) 32)) := heap_at _ _ _ (by simp)
  have hDlt := row_lt hD
  have D0 : Hid (((w.alloc (.cells (vrow 266 s.at) 32)).alloc (.cells (vrow 266 Sh.zero.at) 32)).heap[D]? = some (.cells (vrow (n * 2) (spf px py)) 73)) := heap_past _ _ _ _ (by simp <;> omega) (heap_past _ _ _ _ hDlt hD)
  clear hD
  go_enter Tryd.func26, Tryd.ntmps26
  go_wp2_with (first
    | go_skip
    | (go_at_call 53; (refine (HO.out _ _ P.out).mono ?_; rintro e w1 ⟨rfl, hb⟩; replace P := Go.Lib.hid (row_next hb P.out); replace Z := Go.Lib.hid (row_next hb Z.out); replace D0 := Go.Lib.hid (row_next hb D0.out); replace hB := Go.Lib.hid (below_next hB.out hb); clear hb))
    | ((with_reducible refine wlAt 9 rfl ?_); refine wpList_built rfl 32 [] rfl [] (by rfl) _ built_zero ?_)
    | ((with_reducible refine wlOp (.store 32 (.tmp 4) (.tmp 9)) rfl ?_); refine wpList_storeall rfl 32 (.tmp 4) (.tmp 9) rfl (w.heap.size + 1) rfl 266 Sh.zero.at (Sh.zero).at rfl 32 size_sheet Z.out (fun i _ => Sh.one _ i) ?_; replace Z := Go.Lib.hid (row_set Z.out (vrow 266 (Sh.zero).at)); replace hB := Go.Lib.hid (Below_setRow hB.out (show w.heap.size ≤ w.heap.size + 1 by omega) (vrow 266 (Sh.zero).at))))
  exact ret_row2 Tryd.results26 (w.heap.size + 1) 266 (Sh.zero).at 32 _ Tryd.underlying32 rfl size_sheet (.int .i64 1) rfl rfl rfl Z.out ⟨rfl, hB.out⟩
set_option maxHeartbeats 2000000 in
theorem specWx_rng (s : Sh) (D n : Nat) (px py : Nat → Int) (w : World) (hf : s.fit) (hn : n ≤ 1048576) (hpx : ∀ i, i < n → -128 ≤ px i ∧ px i ≤ 127) (hpy : ∀ i, i < n → -128 ≤ py i ∧ py i ≤ 127) (hD : w.heap[D]? = some (.cells (vrow (n * 2) (spf px py)) 73)) (ho : okI s = true) (hv : (pathU s px py n && lenB n) = false) : Calls Tryd.prog 26 #[.agg s.row, .slice (some ⟨D, 0, none⟩) n n] w fun o w' => o = .returned (.tuple #[.agg Sh.zero.row, .int .i64 2]) ∧ Below w.heap.size w w' := by
  have HO0 := fun b w hs => ok_any s b w hs hf
  rw [← ok_eq s hf, ho] at HO0
  have HO := Go.Lib.hid HO0
  have HL0 := fun b w h1 h2 => lpath_any s b D n px py w ho hf hn hpx hpy h1 h2
  rw [show (pathU s px py n && (decide (1 ≤ n) && decide (n ≤ 80))) = false from hv] at HL0
  have HL := Go.Lib.hid HL0
  clear HO0 HL0 ho hv hpx hpy
  have zz := zero_sheet
  have hB : Hid (Below w.heap.size w ((w.alloc (.cells (vrow 266 s.at) 32)).alloc (.cells (vrow 266 Sh.zero.at) 32))) := (((Below.refl w.heap.size w).alloc (by simp <;> omega) _).alloc (by simp <;> omega) _)
  have P : Hid (((w.alloc (.cells (vrow 266 s.at) 32)).alloc (.cells (vrow 266 Sh.zero.at) 32)).heap[w.heap.size]? = some (.cells (vrow 266 s.at) 32)) := heap_past _ _ _ _ (by first | omega | (simp <;> omega)) (heap_at _ _ _ (by simp))
  have Z : Hid (((w.alloc (.cells (vrow 266 s.at) 32)).alloc (.cells (vrow 266 Sh.zero.at) 32)).heap[w.heap.size + 1]? = some (.cells (vrow 266 Sh.zero.at) 32)) := heap_at _ _ _ (by simp)
  have hDlt := row_lt hD
  have D0 : Hid (((w.alloc (.cells (vrow 266 s.at) 32)).alloc (.cells (vrow 266 Sh.zero.at) 32)).heap[D]? = some (.cells (vrow (n * 2) (spf px py)) 73)) := heap_past _ _ _ _ (by simp <;> omega) (heap_past _ _ _ _ hDlt hD)
  clear hD
  go_enter Tryd.func26, Tryd.ntmps26
  go_wp2_with (first
    | go_skip
    | (go_at_call 53; (refine (HO.out _ _ P.out).mono ?_; rintro e w1 ⟨rfl, hb⟩; replace P := Go.Lib.hid (row_next hb P.out); replace Z := Go.Lib.hid (row_next hb Z.out); replace D0 := Go.Lib.hid (row_next hb D0.out); replace hB := Go.Lib.hid (below_next hB.out hb); clear hb))
    | (go_at_call 76; (refine (HL.out _ _ P.out D0.out).mono ?_; rintro e w1 ⟨rfl, hb⟩; replace P := Go.Lib.hid (row_next hb P.out); replace Z := Go.Lib.hid (row_next hb Z.out); replace D0 := Go.Lib.hid (row_next hb D0.out); replace hB := Go.Lib.hid (below_next hB.out hb); clear hb))
    | ((with_reducible refine wlAt 13 rfl ?_); refine wpList_built rfl 32 [] rfl [] (by rfl) _ built_zero ?_)
    | ((with_reducible refine wlOp (.store 32 (.tmp 4) (.tmp 13)) rfl ?_); refine wpList_storeall rfl 32 (.tmp 4) (.tmp 13) rfl (w.heap.size + 1) rfl 266 Sh.zero.at (Sh.zero).at rfl 32 size_sheet Z.out (fun i _ => Sh.one _ i) ?_; replace Z := Go.Lib.hid (row_set Z.out (vrow 266 (Sh.zero).at)); replace hB := Go.Lib.hid (Below_setRow hB.out (show w.heap.size ≤ w.heap.size + 1 by omega) (vrow 266 (Sh.zero).at))))
  exact ret_row2 Tryd.results26 (w.heap.size + 1) 266 (Sh.zero).at 32 _ Tryd.underlying32 rfl size_sheet (.int .i64 2) rfl rfl rfl Z.out ⟨rfl, hB.out⟩
set_option maxHeartbeats 8000000 in
theorem specWx_ok (s : Sh) (D n : Nat) (px py : Nat → Int) (w : World) (hf : s.fit) (hn : n ≤ 1048576) (hpx : ∀ i, i < n → -128 ≤ px i ∧ px i ≤ 127) (hpy : ∀ i, i < n → -128 ≤ py i ∧ py i ≤ 127) (hD : w.heap[D]? = some (.cells (vrow (n * 2) (spf px py)) 73)) (ho : okI s = true) (hp : pathU s px py n = true) (hl : lenB n = true) : Calls Tryd.prog 26 #[.agg s.row, .slice (some ⟨D, 0, none⟩) n n] w fun o w' => o = .returned (.tuple #[.agg (wxR s px py n).row, .int .i64 (wxC s px py n)]) ∧ Below w.heap.size w w' := by
  have HO0 := fun b w hs => ok_any s b w hs hf
  rw [← ok_eq s hf, ho] at HO0
  have HO := Go.Lib.hid HO0
  have HL0 := fun b w h1 h2 => lpath_any s b D n px py w ho hf hn hpx hpy h1 h2
  rw [show (pathU s px py n && (decide (1 ≤ n) && decide (n ≤ 80))) = true by rw [hp]; exact hl] at HL0
  have HL := Go.Lib.hid HL0
  have HPC := Go.Lib.hid fun k (hk : k < n) => path_cell ho hp hk
  have HBA := Go.Lib.hid fun x y hx hy => bare_iff s x y ho hx hy
  have HWB := Go.Lib.hid fun x y hx hy => (ok_bounds s ho x y hx hy).1
  have HFT := Go.Lib.hid fun k => wxS_fit s px py hf k
  have HOK := Go.Lib.hid ho
  clear HO0 HL0 ho hp hpx hpy hl
  have zz := zero_sheet
  have hB : Hid (Below w.heap.size w ((w.alloc (.cells (vrow 266 s.at) 32)).alloc (.cells (vrow 266 Sh.zero.at) 32))) := (((Below.refl w.heap.size w).alloc (by simp <;> omega) _).alloc (by simp <;> omega) _)
  have P : Hid (((w.alloc (.cells (vrow 266 s.at) 32)).alloc (.cells (vrow 266 Sh.zero.at) 32)).heap[w.heap.size]? = some (.cells (vrow 266 s.at) 32)) := heap_past _ _ _ _ (by first | omega | (simp <;> omega)) (heap_at _ _ _ (by simp))
  have Z : Hid (((w.alloc (.cells (vrow 266 s.at) 32)).alloc (.cells (vrow 266 Sh.zero.at) 32)).heap[w.heap.size + 1]? = some (.cells (vrow 266 Sh.zero.at) 32)) := heap_at _ _ _ (by simp)
  have hDlt := row_lt hD
  have D0 : Hid (((w.alloc (.cells (vrow 266 s.at) 32)).alloc (.cells (vrow 266 Sh.zero.at) 32)).heap[D]? = some (.cells (vrow (n * 2) (spf px py)) 73)) := heap_past _ _ _ _ (by simp <;> omega) (heap_past _ _ _ _ hDlt hD)
  clear hD
  go_enter Tryd.func26, Tryd.ntmps26
  go_wp2_with (first
    | go_skip
    | (go_at_call 53; (refine (HO.out _ _ P.out).mono ?_; rintro e w1 ⟨rfl, hb⟩; replace P := Go.Lib.hid (row_next hb P.out); replace Z := Go.Lib.hid (row_next hb Z.out); replace D0 := Go.Lib.hid (row_next hb D0.out); replace hB := Go.Lib.hid (below_next hB.out hb); clear hb))
    | (go_at_call 76; (refine (HL.out _ _ P.out D0.out).mono ?_; rintro e w1 ⟨rfl, hb⟩; replace P := Go.Lib.hid (row_next hb P.out); replace Z := Go.Lib.hid (row_next hb Z.out); replace D0 := Go.Lib.hid (row_next hb D0.out); replace hB := Go.Lib.hid (below_next hB.out hb); clear hb)))
  go_loopw [6] (fun kv wr => ∃ k : Nat, k ≤ n ∧ kv = .int .i64 k ∧ wxOk s px py k = true ∧ wr.heap[w.heap.size]? = some (.cells (vrow 266 (wxS s px py k).at) 32) ∧ wr.heap[w.heap.size + 1]? = some (.cells (vrow 266 Sh.zero.at) 32) ∧ wr.heap[D]? = some (.cells (vrow (n * 2) (spf px py)) 73) ∧ Below w.heap.size w wr) (fun kv _ => n - (intOf kv).toNat)
  case atStart => exact ⟨0, by omega, rfl, rfl, P.out, Z.out, D0.out, hB.out⟩
  case round =>
    clear P Z D0 hB
    obtain ⟨k, hk, rfl, hok, P, Z, D0, hB⟩ := hrel
    replace P := Go.Lib.hid P; replace Z := Go.Lib.hid Z; replace D0 := Go.Lib.hid D0; replace hB := Go.Lib.hid hB
    by_cases hlt : k < n
    · obtain ⟨x, y, ex, ey, hx, hy⟩ := HPC.out k hlt
      have hsx := spf_x px py k
      have hsy := spf_y px py k
      rw [ex] at hsx
      rw [ey] at hsy
      have hnx : wxS s px py (k + 1) = (wxS s px py k).setWax (py k).toNat (onB ((wxS s px py k).wax (py k).toNat) (px k).toNat) := rfl
      have hok1 : wxOk s px py (k + 1) = (wxOk s px py k && bareB s (px k).toNat (py k).toNat) := rfl
      have hno := wxOk_no s px py k
      rw [ex, ey, Int.toNat_natCast, Int.toNat_natCast] at hnx hok1 hno
      rw [hok, Bool.true_and] at hok1
      have hba := HBA.out x y hx hy
      obtain ⟨w1b, w2b⟩ := HWB.out x y hx hy
      have hwt := (wxS s px py k).at_wet1 (2 + y * 8 + x) (8 * y + x) (by omega) (by omega)
      rw [(wxS_same s px py k).1] at hwt
      have hft := HFT.out k
      have HDK0 := fun w0 hs => ldark_any (wxS s px py k) w.heap.size x y w0 hs hx hy hft
      rw [wx_dark] at HDK0
      have hwr := hft.wax y hy
      have hd0 : 0 ≤ darkB s x y := by
        obtain ⟨_, q0, q1, q2⟩ := ok_bounds s HOK.out x y hx hy
        unfold darkB; omega
      generalize wxS s px py k = T at *
      have hSX := Go.Lib.hid hsx; have hSY := Go.Lib.hid hsy; have HWT := Go.Lib.hid hwt; have HNX := Go.Lib.hid hnx; have HOK1 := Go.Lib.hid hok1
      have HSP := Go.Lib.hid ((spf_two px py k).trans (by rw [ex, ey]))
      generalize s.wet (8 * y + x) = wa at *
      generalize darkB s x y = da at *
      generalize bareB s x y = ba at *
      have HDK := Go.Lib.hid HDK0; have HNO := Go.Lib.hid hno
      clear hsx hsy hwt hnx hok1 HDK0 hft ex ey hno
      have hkI : (k : Int) < (n : Int) := by omega
      have hk0 : (0 : Int) ≤ (k : Int) := by omega
      have hkd : decide ((k : Int) < (n : Int)) = true := by simpa using hkI
      have hxI : (x : Int) < 8 := by omega
      have hyI : (y : Int) < 8 := by omega
      by_cases hw0 : wa = 0
      · have hg1 : decide (0 < wa) = false := by simp; omega
        by_cases hd1 : da = 0
        · have hg2 : decide (0 < da) = false := by simp; omega
          have hbt : ba = true := by rw [hba]; simp [hw0, hd1]
          have HBT := Go.Lib.hid hbt
          clear hw0 hd1 hba hbt
          go_wp2
          refine region_at (by kernel_rfl) (by kernel_rfl) ?_
          intro W hW
          rw [hW] at P Z D0 hB
          clear hW
          have P' := Go.Lib.hid (cls_row' P.out); have D' := Go.Lib.hid (cls_row' D0.out)
          (repeat (first
            | go_big_quiet_skip
            | (refine wpQuiet_load1 22 _ rfl (by first | exact want_n rfl | exact want_g _ _ _ rfl rfl rfl) D (k * 2 + 1) rfl (n * 2) (spf px py) _ rw_i8 D'.out (by omega) ?_; rw [hSY.out]; simp only [Act.put, List.setIfInBounds_toArray, List.set_cons_succ, List.set_cons_zero])
            | (refine wpQuiet_load1 22 _ rfl (by first | exact want_n rfl | exact want_g _ _ _ rfl rfl rfl) D (k * 2) rfl (n * 2) (spf px py) _ rw_i8 D'.out (by omega) ?_; rw [hSX.out]; simp only [Act.put, List.setIfInBounds_toArray, List.set_cons_succ, List.set_cons_zero])
            | (refine wpQuiet_load1 23 _ rfl (by first | exact want_n rfl | exact want_g _ _ _ rfl rfl rfl) w.heap.size (2 + y * 8 + x) rfl 266 T.at _ rw_i16 P'.out (by omega) ?_; rw [HWT.out]; simp only [Act.put, List.setIfInBounds_toArray, List.set_cons_succ, List.set_cons_zero])
            | (refine wpQuiet_loadmid 73 _ rfl (by first | exact want_n rfl | exact want_g _ _ _ rfl rfl rfl) D (k * 2) rfl (n * 2) 2 (spf px py) _ rw_spot size_spot D'.out (by omega) ?_; rw [HSP.out, sp_row']; simp only [Act.put, List.setIfInBounds_toArray, List.set_cons_succ, List.set_cons_zero])
            | go_big_quiet_step ((go_at_call 77; exact cls_call _ (fun w hw => HDK.out w (row_next hw P.out))))))
          refine wpQuiet_nil ?_
          intro Wn hb
          replace P := Go.Lib.hid (row_next hb P.out); replace Z := Go.Lib.hid (row_next hb Z.out); replace D0 := Go.Lib.hid (row_next hb D0.out); replace hB := Go.Lib.hid (below_next hB.out hb); clear hb
          clear P' D'
          go_wp2
          refine wp_region_still_tail 23 (by kernel_rfl) (by kernel_rfl) ?_
          simp only [List.take_succ_cons, List.take_zero, List.drop_succ_cons, List.drop_zero, World.drew_eq]
          repeat (first
            | (refine wpStill_load1 rfl 22 (.tmp 47) rfl D (k * 2 + 1) rfl (n * 2) (spf px py) _ _ Tryd.underlying22 rfl D0.out (by omega) ?_; rw [hSY.out]; simp only [Act.put, List.setIfInBounds_toArray, List.set_cons_succ, List.set_cons_zero])
            | (refine wpStill_load1 rfl 22 (.tmp 52) rfl D (k * 2 + 1) rfl (n * 2) (spf px py) _ _ Tryd.underlying22 rfl D0.out (by omega) ?_; rw [hSY.out]; simp only [Act.put, List.setIfInBounds_toArray, List.set_cons_succ, List.set_cons_zero])
            | (refine wpStill_load1 rfl 22 (.tmp 60) rfl D (k * 2) rfl (n * 2) (spf px py) _ _ Tryd.underlying22 rfl D0.out (by omega) ?_; rw [hSX.out]; simp only [Act.put, List.setIfInBounds_toArray, List.set_cons_succ, List.set_cons_zero])
            | (refine wpStill_load1 rfl 5 (.tmp 55) rfl w.heap.size (258 + y) rfl 266 T.at _ _ Tryd.underlying5 rfl P.out (by omega) ?_; rw [Sh.at_wax1 _ _ (by omega)]; simp only [Act.put, List.setIfInBounds_toArray, List.set_cons_succ, List.set_cons_zero])
            | still_step
            | (refine wpStill_step (fun K hK => ?_); go_simp; simp only [hxI, hyI, if_true]; go_simp; refine hK _ ?_; clear hK K))
          refine wpStill_nil ?_
          refine wpList_store1 rfl 5 (.tmp 66) (.tmp 64) rfl w.heap.size (258 + y) rfl 266 T.at (.int .u8 (onB (T.wax y) x)) (by unfold onB; rw [← sh_nat x hx]; rfl) 32 size_u8 P.out (by omega) rfl ?_
          rw [wax_at T y hy]
          have P2 := row_set (w := Wn.drew) P.out (vrow 266 (T.setWax y (onB (T.wax y) x)).at)
          have Z2 := row_set' (w := Wn.drew) (g := w.heap.size) (by omega) Z.out (vrow 266 (T.setWax y (onB (T.wax y) x)).at)
          have D2 := row_set' (w := Wn.drew) (g := w.heap.size) (by omega) D0.out (vrow 266 (T.setWax y (onB (T.wax y) x)).at)
          have hB2 := Below_setRow hB.out.drew (Nat.le_refl w.heap.size) (vrow 266 (T.setWax y (onB (T.wax y) x)).at)
          clear P Z D0 hB
          generalize World.setRow Wn.drew _ _ = w9 at P2 Z2 D2 hB2 ⊢
          have P := Go.Lib.hid P2; have Z := Go.Lib.hid Z2; have D0 := Go.Lib.hid D2; have hB := Go.Lib.hid hB2
          clear P2 Z2 D2 hB2
          go_wp2
          go_roundw
          case rel => exact ⟨k + 1, by omega, by go_num, by rw [HOK1.out]; exact HBT.out, by rw [HNX.out]; exact P.out, Z.out, D0.out, hB.out⟩
          case measure => simp [intOf]; omega
        · have hg2 : decide (0 < da) = true := by simp; omega
          have hno2 := HNO.out (by rw [hba]; simp [hd1]) n hlt
          have HN2 := Go.Lib.hid hno2
          clear hw0 hd1 hba hno2
          go_wp2
          refine region_at (by kernel_rfl) (by kernel_rfl) ?_
          intro W hW
          rw [hW] at P Z D0 hB
          clear hW
          have P' := Go.Lib.hid (cls_row' P.out); have D' := Go.Lib.hid (cls_row' D0.out)
          (repeat (first
            | go_big_quiet_skip
            | (refine wpQuiet_load1 22 _ rfl (by first | exact want_n rfl | exact want_g _ _ _ rfl rfl rfl) D (k * 2 + 1) rfl (n * 2) (spf px py) _ rw_i8 D'.out (by omega) ?_; rw [hSY.out]; simp only [Act.put, List.setIfInBounds_toArray, List.set_cons_succ, List.set_cons_zero])
            | (refine wpQuiet_load1 22 _ rfl (by first | exact want_n rfl | exact want_g _ _ _ rfl rfl rfl) D (k * 2) rfl (n * 2) (spf px py) _ rw_i8 D'.out (by omega) ?_; rw [hSX.out]; simp only [Act.put, List.setIfInBounds_toArray, List.set_cons_succ, List.set_cons_zero])
            | (refine wpQuiet_load1 23 _ rfl (by first | exact want_n rfl | exact want_g _ _ _ rfl rfl rfl) w.heap.size (2 + y * 8 + x) rfl 266 T.at _ rw_i16 P'.out (by omega) ?_; rw [HWT.out]; simp only [Act.put, List.setIfInBounds_toArray, List.set_cons_succ, List.set_cons_zero])
            | (refine wpQuiet_loadmid 73 _ rfl (by first | exact want_n rfl | exact want_g _ _ _ rfl rfl rfl) D (k * 2) rfl (n * 2) 2 (spf px py) _ rw_spot size_spot D'.out (by omega) ?_; rw [HSP.out, sp_row']; simp only [Act.put, List.setIfInBounds_toArray, List.set_cons_succ, List.set_cons_zero])
            | go_big_quiet_step ((go_at_call 77; exact cls_call _ (fun w hw => HDK.out w (row_next hw P.out))))))
          refine wpQuiet_nil ?_
          intro Wn hb
          replace P := Go.Lib.hid (row_next hb P.out); replace Z := Go.Lib.hid (row_next hb Z.out); replace D0 := Go.Lib.hid (row_next hb D0.out); replace hB := Go.Lib.hid (below_next hB.out hb); clear hb
          clear P' D'
          go_wp2_with (first
            | go_skip
            | ((with_reducible refine wlAt 43 rfl ?_); refine wpList_built rfl 32 [] rfl [] (by rfl) _ built_zero ?_)
            | ((with_reducible refine wlOp (.store 32 (.tmp 4) (.tmp 43)) rfl ?_); refine wpList_storeall rfl 32 (.tmp 4) (.tmp 43) rfl (w.heap.size + 1) rfl 266 Sh.zero.at (Sh.zero).at rfl 32 size_sheet Z.out (fun i _ => Sh.one _ i) ?_; replace Z := Go.Lib.hid (row_set Z.out (vrow 266 (Sh.zero).at)); replace hB := Go.Lib.hid (Below_setRow hB.out (show w.heap.size ≤ w.heap.size + 1 by omega) (vrow 266 (Sh.zero).at))))
          exact ret_row2 Tryd.results26 (w.heap.size + 1) 266 Sh.zero.at 32 _ Tryd.underlying32 rfl size_sheet (.int .i64 4) rfl rfl rfl Z.out ⟨by rw [(wx_not HN2.out).1, (wx_not HN2.out).2], hB.out⟩
      · have hg1 : decide (0 < wa) = true := by simp; omega
        have hno2 := HNO.out (by rw [hba]; simp [hw0]) n hlt
        have HN2 := Go.Lib.hid hno2
        clear hw0 hba hno2
        go_wp2
        refine region_at (by kernel_rfl) (by kernel_rfl) ?_
        intro W hW
        rw [hW] at P Z D0 hB
        clear hW
        have P' := Go.Lib.hid (cls_row' P.out); have D' := Go.Lib.hid (cls_row' D0.out)
        (repeat (first
          | go_big_quiet_skip
          | (refine wpQuiet_load1 22 _ rfl (by first | exact want_n rfl | exact want_g _ _ _ rfl rfl rfl) D (k * 2 + 1) rfl (n * 2) (spf px py) _ rw_i8 D'.out (by omega) ?_; rw [hSY.out]; simp only [Act.put, List.setIfInBounds_toArray, List.set_cons_succ, List.set_cons_zero])
          | (refine wpQuiet_load1 22 _ rfl (by first | exact want_n rfl | exact want_g _ _ _ rfl rfl rfl) D (k * 2) rfl (n * 2) (spf px py) _ rw_i8 D'.out (by omega) ?_; rw [hSX.out]; simp only [Act.put, List.setIfInBounds_toArray, List.set_cons_succ, List.set_cons_zero])
          | (refine wpQuiet_load1 23 _ rfl (by first | exact want_n rfl | exact want_g _ _ _ rfl rfl rfl) w.heap.size (2 + y * 8 + x) rfl 266 T.at _ rw_i16 P'.out (by omega) ?_; rw [HWT.out]; simp only [Act.put, List.setIfInBounds_toArray, List.set_cons_succ, List.set_cons_zero])
          | (refine wpQuiet_loadmid 73 _ rfl (by first | exact want_n rfl | exact want_g _ _ _ rfl rfl rfl) D (k * 2) rfl (n * 2) 2 (spf px py) _ rw_spot size_spot D'.out (by omega) ?_; rw [HSP.out, sp_row']; simp only [Act.put, List.setIfInBounds_toArray, List.set_cons_succ, List.set_cons_zero])
          | go_big_quiet_step ((go_at_call 77; exact cls_call _ (fun w hw => HDK.out w (row_next hw P.out))))))
        refine wpQuiet_nil ?_
        intro Wn hb
        replace P := Go.Lib.hid (row_next hb P.out); replace Z := Go.Lib.hid (row_next hb Z.out); replace D0 := Go.Lib.hid (row_next hb D0.out); replace hB := Go.Lib.hid (below_next hB.out hb); clear hb
        clear P' D'
        go_wp2_with (first
          | go_skip
          | ((with_reducible refine wlAt 43 rfl ?_); refine wpList_built rfl 32 [] rfl [] (by rfl) _ built_zero ?_)
          | ((with_reducible refine wlOp (.store 32 (.tmp 4) (.tmp 43)) rfl ?_); refine wpList_storeall rfl 32 (.tmp 4) (.tmp 43) rfl (w.heap.size + 1) rfl 266 Sh.zero.at (Sh.zero).at rfl 32 size_sheet Z.out (fun i _ => Sh.one _ i) ?_; replace Z := Go.Lib.hid (row_set Z.out (vrow 266 (Sh.zero).at)); replace hB := Go.Lib.hid (Below_setRow hB.out (show w.heap.size ≤ w.heap.size + 1 by omega) (vrow 266 (Sh.zero).at))))
        exact ret_row2 Tryd.results26 (w.heap.size + 1) 266 Sh.zero.at 32 _ Tryd.underlying32 rfl size_sheet (.int .i64 4) rfl rfl rfl Z.out ⟨by rw [(wx_not HN2.out).1, (wx_not HN2.out).2], hB.out⟩
    · obtain rfl : k = n := by omega
      have hkd : decide ((k : Int) < (k : Int)) = false := by simp
      have HOK2 := Go.Lib.hid hok
      clear hok
      generalize hTk : wxS s px py k = T at *
      have HTk := Go.Lib.hid hTk
      clear hTk
      go_wp2_with (first
        | go_skip
        | ((with_reducible refine wlAt 67 rfl ?_); refine wpList_loadall rfl 32 (.tmp 2) rfl w.heap.size rfl 266 (T).at 32 _ Tryd.underlying32 rfl size_sheet P.out ?_)
        | ((with_reducible refine wlOp (.store 32 (.tmp 4) (.tmp 67)) rfl ?_); refine wpList_storeall rfl 32 (.tmp 4) (.tmp 67) rfl (w.heap.size + 1) rfl 266 Sh.zero.at (T).at rfl 32 size_sheet Z.out (fun i _ => Sh.one _ i) ?_; replace Z := Go.Lib.hid (row_set Z.out (vrow 266 (T).at)); replace hB := Go.Lib.hid (Below_setRow hB.out (show w.heap.size ≤ w.heap.size + 1 by omega) (vrow 266 (T).at))))
      exact ret_row2 Tryd.results26 (w.heap.size + 1) 266 T.at 32 _ Tryd.underlying32 rfl size_sheet (.int .i64 0) rfl rfl rfl Z.out ⟨by rw [(wx_yes HOK2.out).1, (wx_yes HOK2.out).2, HTk.out], hB.out⟩
theorem ckPath_bad (s : Sh) (D n : Nat) (px py : Nat → Int) (w : World) (hf : s.fit) (hn : n ≤ 1048576) (hD : w.heap[D]? = some (.cells (vrow (n * 2) (spf px py)) 73)) (e : ErrE) (hE : Errs e w) (ho : okI s = false) : Calls Tryd.prog 78 #[.agg s.row, .slice (some ⟨D, 0, none⟩) n n] w fun o w' => o = .returned (errP e 1) ∧ Below w.heap.size w w' := by
  have HC := Go.Lib.hid fun w hE => checkSheet_bad s ho e w hE
  clear ho
  have hB : Hid (Below w.heap.size w (w.alloc (.cells (vrow 266 s.at) 32))) := ((Below.refl w.heap.size w).alloc (by simp <;> omega) _)
  have P : Hid ((w.alloc (.cells (vrow 266 s.at) 32)).heap[w.heap.size]? = some (.cells (vrow 266 s.at) 32)) := heap_at _ _ _ (by simp)
  go_enter Tryd.func78, Tryd.ntmps78
  go_wp2_with (first
    | go_skip
    | ((with_reducible refine wlAt 6 rfl ?_); refine wpList_loadall rfl 32 (.tmp 2) rfl w.heap.size rfl 266 s.at 32 _ Tryd.underlying32 rfl size_sheet P.out ?_)
    | (go_at_call 58; (refine (HC.out _ (hE.next hB.out)).mono ?_; rintro o w1 ⟨rfl, hb⟩; replace P := Go.Lib.hid (row_next hb P.out); replace hB := Go.Lib.hid (below_next hB.out hb); clear hb)))
  go_ret
  exact ⟨rfl, hB.out⟩
theorem ckPath_any (s : Sh) (D n : Nat) (px py : Nat → Int) (w : World) (hf : s.fit) (hn : n ≤ 1048576) (hD : w.heap[D]? = some (.cells (vrow (n * 2) (spf px py)) 73)) (e : ErrE) (hE : Errs e w) (ho : okI s = true) (b : Bool) (hv : (pathU s px py n && lenB n) = b) : Calls Tryd.prog 78 #[.agg s.row, .slice (some ⟨D, 0, none⟩) n n] w fun o w' => o = .returned (if b then .nilIface else errP e 2) ∧ Below w.heap.size w w' := by
  have HC := Go.Lib.hid fun w hE => checkSheet_ok s ho e w hE
  have HV0 := fun w h => implVP_any s D n px py w hf hn h
  rw [show vpathB s px py n = b by unfold vpathB; rw [ho, Bool.true_and]; exact hv] at HV0
  have HV := Go.Lib.hid HV0
  clear ho hv HV0
  have hDlt := row_lt hD
  have D0 : Hid ((w.alloc (.cells (vrow 266 s.at) 32)).heap[D]? = some (.cells (vrow (n * 2) (spf px py)) 73)) := heap_past _ _ _ _ hDlt hD
  clear hD
  have hB : Hid (Below w.heap.size w (w.alloc (.cells (vrow 266 s.at) 32))) := ((Below.refl w.heap.size w).alloc (by simp <;> omega) _)
  have P : Hid ((w.alloc (.cells (vrow 266 s.at) 32)).heap[w.heap.size]? = some (.cells (vrow 266 s.at) 32)) := heap_at _ _ _ (by simp)
  cases b
  all_goals
    go_enter Tryd.func78, Tryd.ntmps78
    go_wp2_with (first
      | go_skip
      | ((with_reducible refine wlAt 6 rfl ?_); refine wpList_loadall rfl 32 (.tmp 2) rfl w.heap.size rfl 266 s.at 32 _ Tryd.underlying32 rfl size_sheet P.out ?_)
      | ((with_reducible refine wlAt 11 rfl ?_); refine wpList_loadall rfl 32 (.tmp 2) rfl w.heap.size rfl 266 s.at 32 _ Tryd.underlying32 rfl size_sheet P.out ?_)
      | (go_at_call 58; (refine (HC.out _ (hE.next hB.out)).mono ?_; rintro o w1 ⟨rfl, hb⟩; replace P := Go.Lib.hid (row_next hb P.out); replace D0 := Go.Lib.hid (row_next hb D0.out); replace hB := Go.Lib.hid (below_next hB.out hb); clear hb))
      | (go_at_call 128; (refine (HV.out _ D0.out).mono ?_; rintro o w1 ⟨rfl, hb⟩; replace P := Go.Lib.hid (row_next hb P.out); replace D0 := Go.Lib.hid (row_next hb D0.out); replace hB := Go.Lib.hid (below_next hB.out hb); clear hb))
      | ((with_reducible refine wlAt 15 rfl ?_); refine wpList_ld1 91 _ rfl (by first | exact want_n rfl | exact want_g _ _ _ rfl rfl rfl) 1 0 rfl 1 (fun _ => errP e 2) _ rw_err (hE.next hB.out).v2 (by omega) ?_))
    go_ret
    exact ⟨rfl, hB.out⟩
set_option maxHeartbeats 2000000 in
theorem implWx_err (s : Sh) (D n : Nat) (px py : Nat → Int) (w : World) (hf : s.fit) (hn : n ≤ 1048576) (hD : w.heap[D]? = some (.cells (vrow (n * 2) (spf px py)) 73)) (c k : Nat) (e : ErrE) (hE : Errs e w) (HC0 : ∀ w, Errs e w → w.heap[D]? = some (.cells (vrow (n * 2) (spf px py)) 73) → Calls Tryd.prog 78 #[.agg s.row, .slice (some ⟨D, 0, none⟩) n n] w fun o w' => o = .returned (errP e k) ∧ Below w.heap.size w w')
    (HD0 : ∀ w, Errs e w → Calls Tryd.prog 59 #[errP e k] w fun o w' => o = .returned (.int .i64 c) ∧ Below w.heap.size w w') : Calls Tryd.prog 28 #[.agg s.row, .slice (some ⟨D, 0, none⟩) n n] w fun o w' => o = .returned (.tuple #[.agg Sh.zero.row, .int .i64 c]) ∧ Below w.heap.size w w' := by
  have HC := Go.Lib.hid HC0; have HD := Go.Lib.hid HD0
  clear HC0 HD0
  have zz := zero_sheet
  have hB : Hid (Below w.heap.size w ((w.alloc (.cells (vrow 266 s.at) 32)).alloc (.cells (vrow 266 Sh.zero.at) 32))) := (((Below.refl w.heap.size w).alloc (by simp <;> omega) _).alloc (by simp <;> omega) _)
  have P : Hid (((w.alloc (.cells (vrow 266 s.at) 32)).alloc (.cells (vrow 266 Sh.zero.at) 32)).heap[w.heap.size]? = some (.cells (vrow 266 s.at) 32)) := heap_past _ _ _ _ (by first | omega | (simp <;> omega)) (heap_at _ _ _ (by simp))
  have Z : Hid (((w.alloc (.cells (vrow 266 s.at) 32)).alloc (.cells (vrow 266 Sh.zero.at) 32)).heap[w.heap.size + 1]? = some (.cells (vrow 266 Sh.zero.at) 32)) := heap_at _ _ _ (by simp)
  have hDlt := row_lt hD
  have D0 : Hid (((w.alloc (.cells (vrow 266 s.at) 32)).alloc (.cells (vrow 266 Sh.zero.at) 32)).heap[D]? = some (.cells (vrow (n * 2) (spf px py)) 73)) := heap_past _ _ _ _ (by simp <;> omega) (heap_past _ _ _ _ hDlt hD)
  clear hD
  go_enter Tryd.func28, Tryd.ntmps28
  go_wp2_with (first
    | go_skip
    | ((with_reducible refine wlAt 9 rfl ?_); refine wpList_loadall rfl 32 (.tmp 2) rfl w.heap.size rfl 266 (s).at 32 _ Tryd.underlying32 rfl size_sheet P.out ?_)
    | (go_at_call 78; (refine (HC.out _ (hE.next hB.out) D0.out).mono ?_; rintro o w1 ⟨rfl, hb⟩; replace P := Go.Lib.hid (row_next hb P.out); replace Z := Go.Lib.hid (row_next hb Z.out); replace D0 := Go.Lib.hid (row_next hb D0.out); replace hB := Go.Lib.hid (below_next hB.out hb); clear hb))
    | (go_at_call 59; (refine (HD.out _ (hE.next hB.out)).mono ?_; rintro o w1 ⟨rfl, hb⟩; replace P := Go.Lib.hid (row_next hb P.out); replace Z := Go.Lib.hid (row_next hb Z.out); replace D0 := Go.Lib.hid (row_next hb D0.out); replace hB := Go.Lib.hid (below_next hB.out hb); clear hb))
    | ((with_reducible refine wlAt 14 rfl ?_); refine wpList_built rfl 32 [] rfl [] (by rfl) _ built_zero ?_)
    | ((with_reducible refine wlOp (.store 32 (.tmp 4) (.tmp 14)) rfl ?_); refine wpList_storeall rfl 32 (.tmp 4) (.tmp 14) rfl (w.heap.size + 1) rfl 266 Sh.zero.at (Sh.zero).at rfl 32 size_sheet Z.out (fun i _ => Sh.one _ i) ?_; replace Z := Go.Lib.hid (row_set Z.out (vrow 266 (Sh.zero).at)); replace hB := Go.Lib.hid (Below_setRow hB.out (show w.heap.size ≤ w.heap.size + 1 by omega) (vrow 266 (Sh.zero).at))))
  exact ret_row2 Tryd.results28 (w.heap.size + 1) 266 (Sh.zero).at 32 _ Tryd.underlying32 rfl size_sheet (.int .i64 c) rfl rfl rfl Z.out ⟨rfl, hB.out⟩
set_option maxHeartbeats 8000000 in
theorem implWx_ok (s : Sh) (D n : Nat) (px py : Nat → Int) (w : World) (hf : s.fit) (hn : n ≤ 1048576) (hD : w.heap[D]? = some (.cells (vrow (n * 2) (spf px py)) 73)) (e : ErrE) (hE : Errs e w) (ho : okI s = true) (hp : pathU s px py n = true) (hl : lenB n = true) : Calls Tryd.prog 28 #[.agg s.row, .slice (some ⟨D, 0, none⟩) n n] w fun o w' => o = .returned (.tuple #[.agg (wxR s px py n).row, .int .i64 (wxC s px py n)]) ∧ Below w.heap.size w w' := by
  have HC0 := fun w hE hD => ckPath_any s D n px py w hf hn hD e hE ho true (by rw [hp, hl]; rfl)
  simp only [if_true] at HC0
  have HC := Go.Lib.hid HC0
  have HPC := Go.Lib.hid fun k (hk : k < n) => path_cell ho hp hk
  have HFT := Go.Lib.hid fun k => wxS_fit s px py hf k
  clear HC0 ho hp hl
  have zz := zero_sheet
  have hB : Hid (Below w.heap.size w ((w.alloc (.cells (vrow 266 s.at) 32)).alloc (.cells (vrow 266 Sh.zero.at) 32))) := (((Below.refl w.heap.size w).alloc (by simp <;> omega) _).alloc (by simp <;> omega) _)
  have P : Hid (((w.alloc (.cells (vrow 266 s.at) 32)).alloc (.cells (vrow 266 Sh.zero.at) 32)).heap[w.heap.size]? = some (.cells (vrow 266 s.at) 32)) := heap_past _ _ _ _ (by first | omega | (simp <;> omega)) (heap_at _ _ _ (by simp))
  have Z : Hid (((w.alloc (.cells (vrow 266 s.at) 32)).alloc (.cells (vrow 266 Sh.zero.at) 32)).heap[w.heap.size + 1]? = some (.cells (vrow 266 Sh.zero.at) 32)) := heap_at _ _ _ (by simp)
  have hDlt := row_lt hD
  have D0 : Hid (((w.alloc (.cells (vrow 266 s.at) 32)).alloc (.cells (vrow 266 Sh.zero.at) 32)).heap[D]? = some (.cells (vrow (n * 2) (spf px py)) 73)) := heap_past _ _ _ _ (by simp <;> omega) (heap_past _ _ _ _ hDlt hD)
  clear hD
  have zs := zero_spot
  go_enter Tryd.func28, Tryd.ntmps28
  go_wp2_with (first
    | go_skip
    | ((with_reducible refine wlAt 9 rfl ?_); refine wpList_loadall rfl 32 (.tmp 2) rfl w.heap.size rfl 266 (s).at 32 _ Tryd.underlying32 rfl size_sheet P.out ?_)
    | (go_at_call 78; (refine (HC.out _ (hE.next hB.out) D0.out).mono ?_; rintro o w1 ⟨rfl, hb⟩; replace P := Go.Lib.hid (row_next hb P.out); replace Z := Go.Lib.hid (row_next hb Z.out); replace D0 := Go.Lib.hid (row_next hb D0.out); replace hB := Go.Lib.hid (below_next hB.out hb); clear hb)))
  go_loopw [19] (fun kv wr => ∃ k : Nat, k ≤ n ∧ kv = .int .i64 k ∧ wxOk s px py k = true ∧ wr.heap[w.heap.size]? = some (.cells (vrow 266 (wxS s px py k).at) 32) ∧ wr.heap[w.heap.size + 1]? = some (.cells (vrow 266 Sh.zero.at) 32) ∧ wr.heap[D]? = some (.cells (vrow (n * 2) (spf px py)) 73) ∧ Below w.heap.size w wr) (fun kv _ => n - (intOf kv).toNat)
  case atStart => exact ⟨0, by omega, rfl, rfl, P.out, Z.out, D0.out, hB.out⟩
  case round =>
    clear P Z D0 hB
    obtain ⟨k, hk, rfl, hok, P, Z, D0, hB⟩ := hrel
    replace P := Go.Lib.hid P; replace Z := Go.Lib.hid Z; replace D0 := Go.Lib.hid D0; replace hB := Go.Lib.hid hB
    by_cases hlt : k < n
    · obtain ⟨x, y, ex, ey, hx, hy⟩ := HPC.out k hlt
      have hnx : wxS s px py (k + 1) = (wxS s px py k).setWax (py k).toNat (onB ((wxS s px py k).wax (py k).toNat) (px k).toNat) := rfl
      have hok1 : wxOk s px py (k + 1) = (wxOk s px py k && bareB s (px k).toNat (py k).toNat) := rfl
      have hno := wxOk_no s px py k
      rw [ex, ey, Int.toNat_natCast, Int.toNat_natCast] at hnx hok1 hno
      rw [hok, Bool.true_and] at hok1
      have HBR0 := fun w => bare_any (wxS s px py k) x y hx hy w
      rw [wx_bare, ← sp_row'] at HBR0
      have HSP := Go.Lib.hid ((spf_two px py k).trans (by rw [ex, ey]))
      have hsz := hB.out.size
      generalize wxS s px py k = T at *
      have HNX := Go.Lib.hid hnx; have HOK1 := Go.Lib.hid hok1
      have HWW := Go.Lib.hid fun w => withWax_on' (T.wax y) x hx w
      clear hnx hok1 ex ey
      have hkI : (k : Int) < (n : Int) := by omega
      have hk0 : (0 : Int) ≤ (k : Int) := by omega
      have hkd : decide ((k : Int) < (n : Int)) = true := by simpa using hkI
      have hxI : (x : Int) < 8 := by omega
      have hyI : (y : Int) < 8 := by omega
      cases hb0 : bareB s x y
      · have hno2 := hno hb0 n hlt
        have HN2 := Go.Lib.hid hno2
        rw [hb0] at HBR0
        have HBR := Go.Lib.hid HBR0
        clear hno hno2 HBR0 hb0
        go_wp2_with (first
          | go_skip
          | ((with_reducible refine wlAt 22 rfl ?_); refine wpList_loadmid rfl 73 (.tmp 21) rfl D (k * 2) rfl (n * 2) 2 (spf px py) 73 _ Tryd.underlying73 rfl size_spot D0.out (by omega) ?_; rw [HSP.out])
          | ((with_reducible refine wlOp (.store 73 (.tmp 8) (.tmp 22)) rfl ?_); refine wpList_storeall rfl 73 (.tmp 8) (.tmp 22) rfl _ rfl 2 (spAt 0 0) (spAt x y) rfl 73 size_spot (heap_at _ _ _ rfl) (fun i _ => spAt_one _ _ i) ?_; rw [setRow_at _ _ _ _ _ rfl]; have X := Go.Lib.hid (heap_at wr (.cells (vrow 2 (spAt x y)) 73) _ rfl); have nP := row_lt P.out; have nZ := row_lt Z.out; have nD := row_lt D0.out; replace P := Go.Lib.hid (heap_past _ (.cells (vrow 2 (spAt x y)) 73) _ _ nP P.out); replace Z := Go.Lib.hid (heap_past _ (.cells (vrow 2 (spAt x y)) 73) _ _ nZ Z.out); replace D0 := Go.Lib.hid (heap_past _ (.cells (vrow 2 (spAt x y)) 73) _ _ nD D0.out); replace hB := Go.Lib.hid (hB.out.alloc hB.out.size (.cells (vrow 2 (spAt x y)) 73)); generalize wr.heap.size = nb at X nP nZ nD hsz ⊢; generalize wr.alloc _ = w8 at P Z D0 X hB ⊢)
          | ((with_reducible refine wlAt 23 rfl ?_); refine wpList_loadall rfl 32 (.tmp 2) rfl w.heap.size rfl 266 (T).at 32 _ Tryd.underlying32 rfl size_sheet P.out ?_)
          | ((with_reducible refine wlAt 24 rfl ?_); refine wpList_loadall rfl 73 (.tmp 8) rfl nb rfl 2 (spAt x y) 73 _ Tryd.underlying73 rfl size_spot X.out ?_)
          | (go_at_call 79; (refine (HBR.out _).mono ?_; rintro o w1 ⟨rfl, hb⟩; replace X := Go.Lib.hid (row_next hb X.out); replace P := Go.Lib.hid (row_next hb P.out); replace Z := Go.Lib.hid (row_next hb Z.out); replace D0 := Go.Lib.hid (row_next hb D0.out); replace hB := Go.Lib.hid (below_next hB.out hb); clear hb))
          | ((with_reducible refine wlAt 27 rfl ?_); refine wpList_built rfl 32 [] rfl [] (by rfl) _ built_zero ?_)
          | ((with_reducible refine wlOp (.store 32 (.tmp 4) (.tmp 27)) rfl ?_); refine wpList_storeall rfl 32 (.tmp 4) (.tmp 27) rfl (w.heap.size + 1) rfl 266 Sh.zero.at (Sh.zero).at rfl 32 size_sheet Z.out (fun i _ => Sh.one _ i) ?_; replace Z := Go.Lib.hid (row_set Z.out (vrow 266 (Sh.zero).at)); replace hB := Go.Lib.hid (Below_setRow hB.out (show w.heap.size ≤ w.heap.size + 1 by omega) (vrow 266 (Sh.zero).at))))
        exact ret_row2 Tryd.results28 (w.heap.size + 1) 266 Sh.zero.at 32 _ Tryd.underlying32 rfl size_sheet (.int .i64 4) rfl rfl rfl Z.out ⟨by rw [(wx_not HN2.out).1, (wx_not HN2.out).2], hB.out⟩
      · rw [hb0] at HBR0
        have HBR := Go.Lib.hid HBR0
        have HBT := Go.Lib.hid hb0
        clear hno HBR0 hb0
        go_wp2_with (first
          | go_skip
          | ((with_reducible refine wlAt 22 rfl ?_); refine wpList_loadmid rfl 73 (.tmp 21) rfl D (k * 2) rfl (n * 2) 2 (spf px py) 73 _ Tryd.underlying73 rfl size_spot D0.out (by omega) ?_; rw [HSP.out])
          | ((with_reducible refine wlOp (.store 73 (.tmp 8) (.tmp 22)) rfl ?_); refine wpList_storeall rfl 73 (.tmp 8) (.tmp 22) rfl _ rfl 2 (spAt 0 0) (spAt x y) rfl 73 size_spot (heap_at _ _ _ rfl) (fun i _ => spAt_one _ _ i) ?_; rw [setRow_at _ _ _ _ _ rfl]; have X := Go.Lib.hid (heap_at wr (.cells (vrow 2 (spAt x y)) 73) _ rfl); have nP := row_lt P.out; have nZ := row_lt Z.out; have nD := row_lt D0.out; replace P := Go.Lib.hid (heap_past _ (.cells (vrow 2 (spAt x y)) 73) _ _ nP P.out); replace Z := Go.Lib.hid (heap_past _ (.cells (vrow 2 (spAt x y)) 73) _ _ nZ Z.out); replace D0 := Go.Lib.hid (heap_past _ (.cells (vrow 2 (spAt x y)) 73) _ _ nD D0.out); replace hB := Go.Lib.hid (hB.out.alloc hB.out.size (.cells (vrow 2 (spAt x y)) 73)); generalize wr.heap.size = nb at X nP nZ nD hsz ⊢; generalize wr.alloc _ = w8 at P Z D0 X hB ⊢)
          | ((with_reducible refine wlAt 23 rfl ?_); refine wpList_loadall rfl 32 (.tmp 2) rfl w.heap.size rfl 266 (T).at 32 _ Tryd.underlying32 rfl size_sheet P.out ?_)
          | ((with_reducible refine wlAt 24 rfl ?_); refine wpList_loadall rfl 73 (.tmp 8) rfl nb rfl 2 (spAt x y) 73 _ Tryd.underlying73 rfl size_spot X.out ?_)
          | (go_at_call 79; (refine (HBR.out _).mono ?_; rintro o w1 ⟨rfl, hb⟩; replace X := Go.Lib.hid (row_next hb X.out); replace P := Go.Lib.hid (row_next hb P.out); replace Z := Go.Lib.hid (row_next hb Z.out); replace D0 := Go.Lib.hid (row_next hb D0.out); replace hB := Go.Lib.hid (below_next hB.out hb); clear hb)))
        refine region_qt 12 (by kernel_rfl) (by kernel_rfl) ?_
        intro W hW
        rw [hW] at P Z D0 X hB
        clear hW
        simp only [List.take_succ_cons, List.take_zero, List.drop_succ_cons, List.drop_zero]
        have P' := Go.Lib.hid (cls_row' P.out); have X' := Go.Lib.hid (cls_row' X.out)
        (repeat (first
          | go_big_quiet_skip
          | (refine wpQuiet_load1 22 _ rfl (want_n rfl) nb 1 rfl 2 (spAt x y) _ rw_i8 X'.out (by omega) ?_; rw [spAt_1]; simp only [Act.put, List.setIfInBounds_toArray, List.set_cons_succ, List.set_cons_zero])
          | (refine wpQuiet_load1 22 _ rfl (want_n rfl) nb 0 rfl 2 (spAt x y) _ rw_i8 X'.out (by omega) ?_; rw [spAt_0]; simp only [Act.put, List.setIfInBounds_toArray, List.set_cons_succ, List.set_cons_zero])
          | (refine wpQuiet_load1 5 _ rfl (want_n rfl) w.heap.size (258 + y) rfl 266 T.at _ rw_u8 P'.out (by omega) ?_; rw [Sh.at_wax1 _ _ (by omega)]; simp only [Act.put, List.setIfInBounds_toArray, List.set_cons_succ, List.set_cons_zero])
          | go_big_quiet_step ((go_at_call 80; exact cls_call _ (fun w hw => (HWW.out w).mono fun _ _ h => ⟨h.1, below_of_eq h.2.symm⟩)))))
        refine wpQuiet_nil ?_
        intro Wn hb
        replace P := Go.Lib.hid (row_next hb P.out); replace Z := Go.Lib.hid (row_next hb Z.out); replace D0 := Go.Lib.hid (row_next hb D0.out); replace hB := Go.Lib.hid (below_next hB.out hb); clear hb
        clear P' X' X
        refine wpList_store1 rfl 5 (.tmp 39) (.tmp 37) rfl w.heap.size (258 + y) rfl 266 T.at (.int .u8 (onB (T.wax y) x)) rfl 32 size_u8 P.out (by omega) rfl ?_
        rw [wax_at T y hy]
        have P2 := row_set P.out (vrow 266 (T.setWax y (onB (T.wax y) x)).at)
        have Z2 := row_set' (g := w.heap.size) (by omega) Z.out (vrow 266 (T.setWax y (onB (T.wax y) x)).at)
        have D2 := row_set' (g := w.heap.size) (by omega) D0.out (vrow 266 (T.setWax y (onB (T.wax y) x)).at)
        have hB2 := Below_setRow hB.out (Nat.le_refl w.heap.size) (vrow 266 (T.setWax y (onB (T.wax y) x)).at)
        clear P Z D0 hB
        generalize World.setRow Wn _ _ = w9 at P2 Z2 D2 hB2 ⊢
        have P := Go.Lib.hid P2; have Z := Go.Lib.hid Z2; have D0 := Go.Lib.hid D2; have hB := Go.Lib.hid hB2
        clear P2 Z2 D2 hB2
        go_wp2
        go_roundw
        case rel => exact ⟨k + 1, by omega, by go_num, by rw [HOK1.out]; exact HBT.out, by rw [HNX.out]; exact P.out, Z.out, D0.out, hB.out⟩
        case measure => simp [intOf]; omega
    · obtain rfl : k = n := by omega
      have hkd : decide ((k : Int) < (k : Int)) = false := by simp
      have HOK2 := Go.Lib.hid hok
      clear hok
      generalize hTk : wxS s px py k = T at *
      have HTk := Go.Lib.hid hTk
      clear hTk
      go_wp2_with (first
        | go_skip
        | ((with_reducible refine wlAt 41 rfl ?_); refine wpList_loadall rfl 32 (.tmp 2) rfl w.heap.size rfl 266 (T).at 32 _ Tryd.underlying32 rfl size_sheet P.out ?_)
        | ((with_reducible refine wlOp (.store 32 (.tmp 4) (.tmp 41)) rfl ?_); refine wpList_storeall rfl 32 (.tmp 4) (.tmp 41) rfl (w.heap.size + 1) rfl 266 Sh.zero.at (T).at rfl 32 size_sheet Z.out (fun i _ => Sh.one _ i) ?_; replace Z := Go.Lib.hid (row_set Z.out (vrow 266 (T).at)); replace hB := Go.Lib.hid (Below_setRow hB.out (show w.heap.size ≤ w.heap.size + 1 by omega) (vrow 266 (T).at))))
      exact ret_row2 Tryd.results28 (w.heap.size + 1) 266 T.at 32 _ Tryd.underlying32 rfl size_sheet (.int .i64 0) rfl rfl rfl Z.out ⟨by rw [(wx_yes HOK2.out).1, (wx_yes HOK2.out).2, HTk.out], hB.out⟩
end Go.Proofs.YtfkialifnkfgcaaDoor
