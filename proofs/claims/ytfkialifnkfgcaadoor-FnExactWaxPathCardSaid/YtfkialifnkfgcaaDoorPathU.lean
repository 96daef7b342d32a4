import Derived.Deep.RegionHeld3
import Derived.Test.YtfkialifnkfgcaaDoorPathT
import Derived.Test.YtfkialifnkfgcaaDoorG1
import Derived.Test.YtfkialifnkfgcaaDoorImplV
import Derived.Test.YtfkialifnkfgcaaDoorOkEq
namespace Go.Proofs.YtfkialifnkfgcaaDoor
open Go.RowKit
set_option maxRecDepth 100000
set_option linter.unusedVariables false
set_option linter.unusedSimpArgs false
theorem yields_midP {P : Program} {ops : Array Oper} {S : World → Prop} {o : Oper} {a : Act} (hw : Region.wanted o (yielded ops a.tmps) = true) (ty : TypeId) (x : Operand) (ho : o.op = .load ty x)
    (b off : Nat) (hx : a.eval x = .pointer (some ⟨b, off, none⟩)) (n m : Nat) (f : Nat → Value) (r : Array Value) (hbd : off + m ≤ n) (t : TypeId) (d : TypeDesc) (hu : P.underlying ty = some d) (hd : d.isRow = true) (hi : (P.info? ty).map (·.size) = some m)
    (hr : vrow m (fun i => f (off + i)) = r) (hS : ∀ w, S w → w.heap[b]? = some (.cells (vrow n f) t)) : YieldsIf P ops S o (.agg r) a :=
  .inl ⟨hw, fun w hw' => by
    have hg := hS w hw'
    have hrun := run_loadAt_mid (P := P) w b off ty ((List.range m).map fun i => f (off + i)) d (fun j v hj => by
      have hjm : j < m := by
        by_cases c : j < m
        · exact c
        · rw [List.getElem?_eq_none (by simp; omega)] at hj; cases hj
      rw [cell_row hg (by omega)]
      simp [hjm] at hj; rw [hj]) hu hd (by simpa using hi)
    unfold execOp
    simp only [ho, hx, Sem.run_bind, hrun, Result.andThen_ok, Sem.run_pure]
    rw [← hr]; simp [vrow]⟩
theorem lin_bP (n a b : Int) (w : World) : Calls Tryd.prog 84 #[.int .i64 n, .int .i64 a, .int .i64 b] w fun e w' => e = .returned (.bool (decide (a ≤ n) && decide (n ≤ b))) ∧ Below w.heap.size w w' := by
  by_cases h : a ≤ n ∧ n ≤ b
  · rw [show (decide (a ≤ n) && decide (n ≤ b)) = true by simp; omega]; exact in_yes _ _ _ h.1 h.2 w
  · rw [show (decide (a ≤ n) && decide (n ≤ b)) = false by simp; omega]; exact in_no _ _ _ (by omega) w
/-- the first k spots of a path lie in the sheet, side by side -/
def pathU (s : Sh) (px py : Nat → Int) : Nat → Bool
  | 0 => true
  | k + 1 => pathU s px py k && (hasB s (px k) (py k) && (decide (k = 0) || stepU (px (k - 1)) (py (k - 1)) (px k) (py k) 4))
theorem pathU_no (s : Sh) (px py : Nat → Int) (k n : Nat) (hk : k < n) (h : (hasB s (px k) (py k) && (decide (k = 0) || stepU (px (k - 1)) (py (k - 1)) (px k) (py k) 4)) = false) : pathU s px py n = false := by
  induction n with
  | zero => omega
  | succ n ih =>
    show (pathU s px py n && _) = false
    by_cases e : k = n
    · rw [← e, h, Bool.and_false]
    · rw [ih (by omega), Bool.false_and]
theorem pathU_prev (s : Sh) (px py : Nat → Int) (k : Nat) (h : pathU s px py (k + 1) = true) : hasB s (px k) (py k) = true := by
  unfold pathU at h
  simp only [Bool.and_eq_true] at h
  exact h.2.1
theorem ok_hasP (s : Sh) (hv : okI s = true) (x y : Int) (hh : hasB s x y = true) : ∃ i j : Nat, x = i ∧ y = j ∧ i < 8 ∧ j < 8 := by
  simp only [okI, hasB, Bool.and_eq_true, decide_eq_true_eq] at hv hh
  exact ⟨x.toNat, y.toNat, by omega, by omega, by omega, by omega⟩
set_option maxHeartbeats 2000000 in
theorem lpath_any (s : Sh) (b D n : Nat) (px py : Nat → Int) (w : World) (hok : okI s = true) (hf : s.fit) (hn : n ≤ 1048576) (hpx : ∀ i, i < n → -128 ≤ px i ∧ px i ≤ 127) (hpy : ∀ i, i < n → -128 ≤ py i ∧ py i ≤ 127) (h1 : w.heap[b]? = some (.cells s.row 32)) (h2 : w.heap[D]? = some (.cells (vrow (n * 2) (spf px py)) 73)) : Calls Tryd.prog 76 #[.pointer (some ⟨b, 0, none⟩), .slice (some ⟨D, 0, none⟩) n n] w fun e w' => e = .returned (.bool (pathU s px py n && (decide (1 ≤ n) && decide (n ≤ 80)))) ∧ Below w.heap.size w w' := by
  have A := Go.Lib.hid h1
  have R := Go.Lib.hid h2
  have hB := Go.Lib.hid (Below.refl w.heap.size w)
  clear h1 h2
  go_enter Tryd.func76, Tryd.ntmps76
  go_wp2
  go_loopw [5] (fun iv wr => ∃ k : Nat, k ≤ n ∧ iv = .int .i64 k ∧ pathU s px py k = true ∧ wr.heap[b]? = some (.cells s.row 32) ∧ wr.heap[D]? = some (.cells (vrow (n * 2) (spf px py)) 73) ∧ Below w.heap.size w wr) (fun iv _ => n - (intOf iv).toNat)
  case atStart => exact ⟨0, by omega, rfl, rfl, A.out, R.out, hB.out⟩
  case round =>
    clear A R hB
    obtain ⟨k, hk, rfl, HU, A, R, hB⟩ := hrel
    replace HU := Go.Lib.hid HU
    replace A := Go.Lib.hid A; replace R := Go.Lib.hid R; replace hB := Go.Lib.hid hB
    by_cases hlt : k < n
    · have hkI : (k : Int) < n := by omega
      have hnl : (n : Int) ≤ 1048576 := by omega
      --ROUND
      have HI := Go.Lib.hid fun w' (h : w'.heap[b]? = some (.cells s.row 32)) => is_any s b (px k) (py k) w' h hf (hpx k hlt) (hpy k hlt)
      cases hh : hasB s (px k) (py k)
      · have HUn := pathU_no s px py k n hlt (by rw [hh, Bool.false_and])
        rw [hh] at HI
        clear hh
        go_wp2
        refine Code.wp_mono (Q := fun e a' W' => e = .normal ∧ a' = { tmps := #[.pointer (some ⟨b, 0, none⟩), .slice (some ⟨D, 0, none⟩) n n, undef, undef, u4, .int .i64 k, .int .i64 k, .slice (some ⟨D, 0, none⟩) n n, .int .i64 n, .bool true, u10, u11, .pointer (some ⟨b, 0, none⟩), .slice (some ⟨D, 0, none⟩) n n, .int .i64 k, .pointer (some ⟨D, k * 2, none⟩), .agg (vrow 2 (spAt (px k) (py k))), .bool false, .bool true, .bool true, undef, undef, undef, undef, undef, undef, undef, undef, undef, undef, undef, undef, undef, undef, undef, .bool true, undef, undef, undef], defers := [] } ∧ W'.heap[b]? = some (.cells s.row 32) ∧ W'.heap[D]? = some (.cells (vrow (n * 2) (spf px py)) 73) ∧ Below w.heap.size w W') ?_ ?_
        rotate_left
        · refine wp_region_held_drew (S := fun W' => W'.heap[b]? = some (.cells s.row 32) ∧ W'.heap[D]? = some (.cells (vrow (n * 2) (spf px py)) 73) ∧ Below w.heap.size w W') (by kernel_rfl) ⟨drwP A.out, drwP R.out, hB.out.drew⟩ (fun hH => ?_)
          generalize World.drew _ = W at hH ⊢
          refine wpAnyH_take (i := 0) (v := (.pointer (some ⟨b, 0, none⟩))) rfl (by kernel_rfl) (by kernel_rfl) (by kernel_rfl) (fun _ _ _ h => by cases h.1) (.inl ⟨by kernel_rfl, fun w hw => by go_simp⟩) hH ?_
          (try simp only [Act.put, List.getElem_toArray, List.getElem_cons_succ, List.getElem_cons_zero, List.setIfInBounds_toArray, List.set_cons_succ, List.set_cons_zero])
          refine wpAnyH_take (i := 1) (v := (.slice (some ⟨D, 0, none⟩) n n)) rfl (by kernel_rfl) (by kernel_rfl) (by kernel_rfl) (fun _ _ _ h => by cases h.1) (.inl ⟨by kernel_rfl, fun w hw => by go_simp⟩) hH ?_
          (try simp only [Act.put, List.getElem_toArray, List.getElem_cons_succ, List.getElem_cons_zero, List.setIfInBounds_toArray, List.set_cons_succ, List.set_cons_zero])
          refine wpAnyH_take (i := 2) (v := (.int .i64 k)) rfl (by kernel_rfl) (by kernel_rfl) (by kernel_rfl) (fun _ _ _ h => by cases h.1) (.inl ⟨by kernel_rfl, fun w hw => by go_simp⟩) hH ?_
          (try simp only [Act.put, List.getElem_toArray, List.getElem_cons_succ, List.getElem_cons_zero, List.setIfInBounds_toArray, List.set_cons_succ, List.set_cons_zero])
          refine wpAnyH_take (i := 3) (v := (.pointer (some ⟨D, k * 2, none⟩))) rfl (by kernel_rfl) (by kernel_rfl) (by kernel_rfl) (fun _ _ _ h => by cases h.1) (.inl ⟨by kernel_rfl, fun w hw => by go_simp <;> (intro hh; exfalso; omega)⟩) hH ?_
          (try simp only [Act.put, List.getElem_toArray, List.getElem_cons_succ, List.getElem_cons_zero, List.setIfInBounds_toArray, List.set_cons_succ, List.set_cons_zero])
          refine wpAnyH_take (i := 4) (v := (.agg (vrow 2 (spAt (px k) (py k))))) rfl (by kernel_rfl) (by kernel_rfl) (by kernel_rfl) (fun _ _ _ h => by cases h.1) (yields_midP (by kernel_rfl) 73 _ rfl D (k * 2) (by kernel_rfl) (n * 2) 2 (spf px py) _ (by omega) 73 _ Tryd.underlying73 rfl size_spot (spf_two px py k) (fun _ h => h.2.1)) hH ?_
          (try simp only [Act.put, List.getElem_toArray, List.getElem_cons_succ, List.getElem_cons_zero, List.setIfInBounds_toArray, List.set_cons_succ, List.set_cons_zero])
          refine wpAnyH_ready (rs := [5]) (by kernel_rfl) (by simp) (AllReadyH.cons rfl (fun K hK => ?_) AllReadyH.nil)
          rw [if_pos (by kernel_rfl)]
          go_simp
          go_at_call 107
          refine (HI.out _ hH.1).mono ?_
          rintro o X ⟨rfl, hb⟩
          replace hH : X.heap[b]? = some (.cells s.row 32) ∧ X.heap[D]? = some (.cells (vrow (n * 2) (spf px py)) 73) ∧ Below w.heap.size w X := ⟨row_next hb hH.1, row_next hb hH.2.1, hH.2.2.trans (hb.mono hH.2.2.size)⟩
          clear hb
          refine hK.out _ _ hH (fun hH => ?_)
          clear hK K
          (try simp only [Act.put, List.getElem_toArray, List.getElem_cons_succ, List.getElem_cons_zero, List.setIfInBounds_toArray, List.set_cons_succ, List.set_cons_zero])
          refine wpAnyH_take (i := 6) (v := (.bool true)) rfl (by kernel_rfl) (by kernel_rfl) (by kernel_rfl) (fun _ _ _ h => by cases h.1) (.inl ⟨by kernel_rfl, fun w hw => by go_simp⟩) hH ?_
          (try simp only [Act.put, List.getElem_toArray, List.getElem_cons_succ, List.getElem_cons_zero, List.setIfInBounds_toArray, List.set_cons_succ, List.set_cons_zero])
          refine wpAnyH_take (i := 7) (v := (.bool true)) rfl (by kernel_rfl) (by kernel_rfl) (by kernel_rfl) (fun _ _ _ h => by cases h.1) (.inl ⟨by kernel_rfl, fun w hw => by go_simp⟩) hH ?_
          (try simp only [Act.put, List.getElem_toArray, List.getElem_cons_succ, List.getElem_cons_zero, List.setIfInBounds_toArray, List.set_cons_succ, List.set_cons_zero])
          refine wpAnyH_take (i := 8) (v := undef) rfl (by kernel_rfl) (by kernel_rfl) (by kernel_rfl) (fun _ _ _ h => by cases h.1) (.inr ⟨by kernel_rfl, rfl⟩) hH ?_
          (try simp only [Act.put, List.getElem_toArray, List.getElem_cons_succ, List.getElem_cons_zero, List.setIfInBounds_toArray, List.set_cons_succ, List.set_cons_zero])
          refine wpAnyH_take (i := 9) (v := undef) rfl (by kernel_rfl) (by kernel_rfl) (by kernel_rfl) (fun _ _ _ h => by cases h.1) (.inr ⟨by kernel_rfl, rfl⟩) hH ?_
          (try simp only [Act.put, List.getElem_toArray, List.getElem_cons_succ, List.getElem_cons_zero, List.setIfInBounds_toArray, List.set_cons_succ, List.set_cons_zero])
          refine wpAnyH_take (i := 10) (v := undef) rfl (by kernel_rfl) (by kernel_rfl) (by kernel_rfl) (fun _ _ _ h => by cases h.1) (.inr ⟨by kernel_rfl, rfl⟩) hH ?_
          (try simp only [Act.put, List.getElem_toArray, List.getElem_cons_succ, List.getElem_cons_zero, List.setIfInBounds_toArray, List.set_cons_succ, List.set_cons_zero])
          refine wpAnyH_take (i := 11) (v := undef) rfl (by kernel_rfl) (by kernel_rfl) (by kernel_rfl) (fun _ _ _ h => by cases h.1) (.inr ⟨by kernel_rfl, rfl⟩) hH ?_
          (try simp only [Act.put, List.getElem_toArray, List.getElem_cons_succ, List.getElem_cons_zero, List.setIfInBounds_toArray, List.set_cons_succ, List.set_cons_zero])
          refine wpAnyH_take (i := 12) (v := undef) rfl (by kernel_rfl) (by kernel_rfl) (by kernel_rfl) (fun _ _ _ h => by cases h.1) (.inr ⟨by kernel_rfl, rfl⟩) hH ?_
          (try simp only [Act.put, List.getElem_toArray, List.getElem_cons_succ, List.getElem_cons_zero, List.setIfInBounds_toArray, List.set_cons_succ, List.set_cons_zero])
          refine wpAnyH_take (i := 13) (v := undef) rfl (by kernel_rfl) (by kernel_rfl) (by kernel_rfl) (fun _ _ _ h => by cases h.1) (.inr ⟨by kernel_rfl, rfl⟩) hH ?_
          (try simp only [Act.put, List.getElem_toArray, List.getElem_cons_succ, List.getElem_cons_zero, List.setIfInBounds_toArray, List.set_cons_succ, List.set_cons_zero])
          refine wpAnyH_take (i := 14) (v := undef) rfl (by kernel_rfl) (by kernel_rfl) (by kernel_rfl) (fun _ _ _ h => by cases h.1) (.inr ⟨by kernel_rfl, rfl⟩) hH ?_
          (try simp only [Act.put, List.getElem_toArray, List.getElem_cons_succ, List.getElem_cons_zero, List.setIfInBounds_toArray, List.set_cons_succ, List.set_cons_zero])
          refine wpAnyH_take (i := 15) (v := undef) rfl (by kernel_rfl) (by kernel_rfl) (by kernel_rfl) (fun _ _ _ h => by cases h.1) (.inr ⟨by kernel_rfl, rfl⟩) hH ?_
          (try simp only [Act.put, List.getElem_toArray, List.getElem_cons_succ, List.getElem_cons_zero, List.setIfInBounds_toArray, List.set_cons_succ, List.set_cons_zero])
          refine wpAnyH_take (i := 16) (v := undef) rfl (by kernel_rfl) (by kernel_rfl) (by kernel_rfl) (fun _ _ _ h => by cases h.1) (.inr ⟨by kernel_rfl, rfl⟩) hH ?_
          (try simp only [Act.put, List.getElem_toArray, List.getElem_cons_succ, List.getElem_cons_zero, List.setIfInBounds_toArray, List.set_cons_succ, List.set_cons_zero])
          refine wpAnyH_take (i := 17) (v := undef) rfl (by kernel_rfl) (by kernel_rfl) (by kernel_rfl) (fun _ _ _ h => by cases h.1) (.inr ⟨by kernel_rfl, rfl⟩) hH ?_
          (try simp only [Act.put, List.getElem_toArray, List.getElem_cons_succ, List.getElem_cons_zero, List.setIfInBounds_toArray, List.set_cons_succ, List.set_cons_zero])
          refine wpAnyH_take (i := 18) (v := undef) rfl (by kernel_rfl) (by kernel_rfl) (by kernel_rfl) (fun _ _ _ h => by cases h.1) (.inr ⟨by kernel_rfl, rfl⟩) hH ?_
          (try simp only [Act.put, List.getElem_toArray, List.getElem_cons_succ, List.getElem_cons_zero, List.setIfInBounds_toArray, List.set_cons_succ, List.set_cons_zero])
          refine wpAnyH_take (i := 19) (v := undef) rfl (by kernel_rfl) (by kernel_rfl) (by kernel_rfl) (fun _ _ _ h => by cases h.1) (.inr ⟨by kernel_rfl, rfl⟩) hH ?_
          (try simp only [Act.put, List.getElem_toArray, List.getElem_cons_succ, List.getElem_cons_zero, List.setIfInBounds_toArray, List.set_cons_succ, List.set_cons_zero])
          refine wpAnyH_take (i := 20) (v := undef) rfl (by kernel_rfl) (by kernel_rfl) (by kernel_rfl) (fun _ _ _ h => by cases h.1) (.inr ⟨by kernel_rfl, rfl⟩) hH ?_
          (try simp only [Act.put, List.getElem_toArray, List.getElem_cons_succ, List.getElem_cons_zero, List.setIfInBounds_toArray, List.set_cons_succ, List.set_cons_zero])
          refine wpAnyH_take (i := 21) (v := undef) rfl (by kernel_rfl) (by kernel_rfl) (by kernel_rfl) (fun _ _ _ h => by cases h.1) (.inr ⟨by kernel_rfl, rfl⟩) hH ?_
          (try simp only [Act.put, List.getElem_toArray, List.getElem_cons_succ, List.getElem_cons_zero, List.setIfInBounds_toArray, List.set_cons_succ, List.set_cons_zero])
          refine wpAnyH_take (i := 22) (v := undef) rfl (by kernel_rfl) (by kernel_rfl) (by kernel_rfl) (fun _ _ _ h => by cases h.1) (.inr ⟨by kernel_rfl, rfl⟩) hH ?_
          (try simp only [Act.put, List.getElem_toArray, List.getElem_cons_succ, List.getElem_cons_zero, List.setIfInBounds_toArray, List.set_cons_succ, List.set_cons_zero])
          refine wpAnyH_take (i := 23) (v := (.bool true)) rfl (by kernel_rfl) (by kernel_rfl) (by kernel_rfl) (fun _ _ _ h => by cases h.1) (.inl ⟨by kernel_rfl, fun w hw => by go_simp⟩) hH ?_
          (try simp only [Act.put, List.getElem_toArray, List.getElem_cons_succ, List.getElem_cons_zero, List.setIfInBounds_toArray, List.set_cons_succ, List.set_cons_zero])
          refine wpAnyH_done (by kernel_rfl) ?_ _
          exact ⟨rfl, rfl, hH⟩
        rintro e1 a1 W1 ⟨rfl, rfl, A, R, hB⟩
        replace A := Go.Lib.hid A; replace R := Go.Lib.hid R; replace hB := Go.Lib.hid hB
        have HP := Go.Lib.hid HUn
        go_wp2
        go_ret
        exact ⟨by rw [HP.out, Bool.false_and]; rfl, hB.out⟩
      · have hpr := ok_hasP s hok _ _ hh
        rw [hh] at HI
        rcases k with _ | j
        · have HUn : pathU s px py 1 = true := by
            show (true && (hasB s (px 0) (py 0) && _)) = true
            rw [hh]; rfl
          clear hh hpr
          go_wp2
          refine Code.wp_mono (Q := fun e a' W' => e = .normal ∧ a' = { tmps := #[.pointer (some ⟨b, 0, none⟩), .slice (some ⟨D, 0, none⟩) n n, undef, undef, u4, .int .i64 (0 : Nat), .int .i64 (0 : Nat), .slice (some ⟨D, 0, none⟩) n n, .int .i64 n, .bool true, u10, u11, .pointer (some ⟨b, 0, none⟩), .slice (some ⟨D, 0, none⟩) n n, .int .i64 (0 : Nat), .pointer (some ⟨D, 0 * 2, none⟩), .agg (vrow 2 (spAt (px 0) (py 0))), .bool true, .bool false, .bool false, .int .i64 (0 : Nat), .bool false, .bool false, undef, undef, undef, undef, undef, undef, undef, undef, undef, undef, undef, .bool false, .bool false, undef, undef, undef], defers := [] } ∧ W'.heap[b]? = some (.cells s.row 32) ∧ W'.heap[D]? = some (.cells (vrow (n * 2) (spf px py)) 73) ∧ Below w.heap.size w W') ?_ ?_
          rotate_left
          · refine wp_region_held_drew (S := fun W' => W'.heap[b]? = some (.cells s.row 32) ∧ W'.heap[D]? = some (.cells (vrow (n * 2) (spf px py)) 73) ∧ Below w.heap.size w W') (by kernel_rfl) ⟨drwP A.out, drwP R.out, hB.out.drew⟩ (fun hH => ?_)
            generalize World.drew _ = W at hH ⊢
            refine wpAnyH_take (i := 0) (v := (.pointer (some ⟨b, 0, none⟩))) rfl (by kernel_rfl) (by kernel_rfl) (by kernel_rfl) (fun _ _ _ h => by cases h.1) (.inl ⟨by kernel_rfl, fun w hw => by go_simp⟩) hH ?_
            (try simp only [Act.put, List.getElem_toArray, List.getElem_cons_succ, List.getElem_cons_zero, List.setIfInBounds_toArray, List.set_cons_succ, List.set_cons_zero])
            refine wpAnyH_take (i := 1) (v := (.slice (some ⟨D, 0, none⟩) n n)) rfl (by kernel_rfl) (by kernel_rfl) (by kernel_rfl) (fun _ _ _ h => by cases h.1) (.inl ⟨by kernel_rfl, fun w hw => by go_simp⟩) hH ?_
            (try simp only [Act.put, List.getElem_toArray, List.getElem_cons_succ, List.getElem_cons_zero, List.setIfInBounds_toArray, List.set_cons_succ, List.set_cons_zero])
            refine wpAnyH_take (i := 2) (v := (.int .i64 (0 : Nat))) rfl (by kernel_rfl) (by kernel_rfl) (by kernel_rfl) (fun _ _ _ h => by cases h.1) (.inl ⟨by kernel_rfl, fun w hw => by go_simp⟩) hH ?_
            (try simp only [Act.put, List.getElem_toArray, List.getElem_cons_succ, List.getElem_cons_zero, List.setIfInBounds_toArray, List.set_cons_succ, List.set_cons_zero])
            refine wpAnyH_take (i := 3) (v := (.pointer (some ⟨D, 0 * 2, none⟩))) rfl (by kernel_rfl) (by kernel_rfl) (by kernel_rfl) (fun _ _ _ h => by cases h.1) (.inl ⟨by kernel_rfl, fun w hw => by go_simp <;> (intro hh; exfalso; omega)⟩) hH ?_
            (try simp only [Act.put, List.getElem_toArray, List.getElem_cons_succ, List.getElem_cons_zero, List.setIfInBounds_toArray, List.set_cons_succ, List.set_cons_zero])
            refine wpAnyH_take (i := 4) (v := (.agg (vrow 2 (spAt (px 0) (py 0))))) rfl (by kernel_rfl) (by kernel_rfl) (by kernel_rfl) (fun _ _ _ h => by cases h.1) (yields_midP (by kernel_rfl) 73 _ rfl D (0 * 2) (by kernel_rfl) (n * 2) 2 (spf px py) _ (by omega) 73 _ Tryd.underlying73 rfl size_spot (spf_two px py 0) (fun _ h => h.2.1)) hH ?_
            (try simp only [Act.put, List.getElem_toArray, List.getElem_cons_succ, List.getElem_cons_zero, List.setIfInBounds_toArray, List.set_cons_succ, List.set_cons_zero])
            refine wpAnyH_ready (rs := [5]) (by kernel_rfl) (by simp) (AllReadyH.cons rfl (fun K hK => ?_) AllReadyH.nil)
            rw [if_pos (by kernel_rfl)]
            go_simp
            go_at_call 107
            refine (HI.out _ hH.1).mono ?_
            rintro o X ⟨rfl, hb⟩
            replace hH : X.heap[b]? = some (.cells s.row 32) ∧ X.heap[D]? = some (.cells (vrow (n * 2) (spf px py)) 73) ∧ Below w.heap.size w X := ⟨row_next hb hH.1, row_next hb hH.2.1, hH.2.2.trans (hb.mono hH.2.2.size)⟩
            clear hb
            refine hK.out _ _ hH (fun hH => ?_)
            clear hK K
            (try simp only [Act.put, List.getElem_toArray, List.getElem_cons_succ, List.getElem_cons_zero, List.setIfInBounds_toArray, List.set_cons_succ, List.set_cons_zero])
            refine wpAnyH_take (i := 6) (v := (.bool false)) rfl (by kernel_rfl) (by kernel_rfl) (by kernel_rfl) (fun _ _ _ h => by cases h.1) (.inl ⟨by kernel_rfl, fun w hw => by go_simp⟩) hH ?_
            (try simp only [Act.put, List.getElem_toArray, List.getElem_cons_succ, List.getElem_cons_zero, List.setIfInBounds_toArray, List.set_cons_succ, List.set_cons_zero])
            refine wpAnyH_take (i := 7) (v := (.bool false)) rfl (by kernel_rfl) (by kernel_rfl) (by kernel_rfl) (fun _ _ _ h => by cases h.1) (.inl ⟨by kernel_rfl, fun w hw => by go_simp⟩) hH ?_
            (try simp only [Act.put, List.getElem_toArray, List.getElem_cons_succ, List.getElem_cons_zero, List.setIfInBounds_toArray, List.set_cons_succ, List.set_cons_zero])
            refine wpAnyH_take (i := 8) (v := (.int .i64 (0 : Nat))) rfl (by kernel_rfl) (by kernel_rfl) (by kernel_rfl) (fun _ _ _ h => by cases h.1) (.inl ⟨by kernel_rfl, fun w hw => by go_simp⟩) hH ?_
            (try simp only [Act.put, List.getElem_toArray, List.getElem_cons_succ, List.getElem_cons_zero, List.setIfInBounds_toArray, List.set_cons_succ, List.set_cons_zero])
            refine wpAnyH_take (i := 9) (v := (.bool false)) rfl (by kernel_rfl) (by kernel_rfl) (by kernel_rfl) (fun _ _ _ h => by cases h.1) (.inl ⟨by kernel_rfl, fun w hw => by go_simp⟩) hH ?_
            (try simp only [Act.put, List.getElem_toArray, List.getElem_cons_succ, List.getElem_cons_zero, List.setIfInBounds_toArray, List.set_cons_succ, List.set_cons_zero])
            refine wpAnyH_take (i := 10) (v := (.bool false)) rfl (by kernel_rfl) (by kernel_rfl) (by kernel_rfl) (fun _ _ _ h => by cases h.1) (.inl ⟨by kernel_rfl, fun w hw => by go_simp⟩) hH ?_
            (try simp only [Act.put, List.getElem_toArray, List.getElem_cons_succ, List.getElem_cons_zero, List.setIfInBounds_toArray, List.set_cons_succ, List.set_cons_zero])
            refine wpAnyH_take (i := 11) (v := undef) rfl (by kernel_rfl) (by kernel_rfl) (by kernel_rfl) (fun _ _ _ h => by cases h.1) (.inr ⟨by kernel_rfl, rfl⟩) hH ?_
            (try simp only [Act.put, List.getElem_toArray, List.getElem_cons_succ, List.getElem_cons_zero, List.setIfInBounds_toArray, List.set_cons_succ, List.set_cons_zero])
            refine wpAnyH_take (i := 12) (v := undef) rfl (by kernel_rfl) (by kernel_rfl) (by kernel_rfl) (fun _ _ _ h => by cases h.1) (.inr ⟨by kernel_rfl, rfl⟩) hH ?_
            (try simp only [Act.put, List.getElem_toArray, List.getElem_cons_succ, List.getElem_cons_zero, List.setIfInBounds_toArray, List.set_cons_succ, List.set_cons_zero])
            refine wpAnyH_take (i := 13) (v := undef) rfl (by kernel_rfl) (by kernel_rfl) (by kernel_rfl) (fun _ _ _ h => by cases h.1) (.inr ⟨by kernel_rfl, rfl⟩) hH ?_
            (try simp only [Act.put, List.getElem_toArray, List.getElem_cons_succ, List.getElem_cons_zero, List.setIfInBounds_toArray, List.set_cons_succ, List.set_cons_zero])
            refine wpAnyH_take (i := 14) (v := undef) rfl (by kernel_rfl) (by kernel_rfl) (by kernel_rfl) (fun _ _ _ h => by cases h.1) (.inr ⟨by kernel_rfl, rfl⟩) hH ?_
            (try simp only [Act.put, List.getElem_toArray, List.getElem_cons_succ, List.getElem_cons_zero, List.setIfInBounds_toArray, List.set_cons_succ, List.set_cons_zero])
            refine wpAnyH_take (i := 15) (v := undef) rfl (by kernel_rfl) (by kernel_rfl) (by kernel_rfl) (fun _ _ _ h => by cases h.1) (.inr ⟨by kernel_rfl, rfl⟩) hH ?_
            (try simp only [Act.put, List.getElem_toArray, List.getElem_cons_succ, List.getElem_cons_zero, List.setIfInBounds_toArray, List.set_cons_succ, List.set_cons_zero])
            refine wpAnyH_take (i := 16) (v := undef) rfl (by kernel_rfl) (by kernel_rfl) (by kernel_rfl) (fun _ _ _ h => by cases h.1) (.inr ⟨by kernel_rfl, rfl⟩) hH ?_
            (try simp only [Act.put, List.getElem_toArray, List.getElem_cons_succ, List.getElem_cons_zero, List.setIfInBounds_toArray, List.set_cons_succ, List.set_cons_zero])
            refine wpAnyH_take (i := 17) (v := undef) rfl (by kernel_rfl) (by kernel_rfl) (by kernel_rfl) (fun _ _ _ h => by cases h.1) (.inr ⟨by kernel_rfl, rfl⟩) hH ?_
            (try simp only [Act.put, List.getElem_toArray, List.getElem_cons_succ, List.getElem_cons_zero, List.setIfInBounds_toArray, List.set_cons_succ, List.set_cons_zero])
            refine wpAnyH_take (i := 18) (v := undef) rfl (by kernel_rfl) (by kernel_rfl) (by kernel_rfl) (fun _ _ _ h => by cases h.1) (.inr ⟨by kernel_rfl, rfl⟩) hH ?_
            (try simp only [Act.put, List.getElem_toArray, List.getElem_cons_succ, List.getElem_cons_zero, List.setIfInBounds_toArray, List.set_cons_succ, List.set_cons_zero])
            refine wpAnyH_take (i := 19) (v := undef) rfl (by kernel_rfl) (by kernel_rfl) (by kernel_rfl) (fun _ _ _ h => by cases h.1) (.inr ⟨by kernel_rfl, rfl⟩) hH ?_
            (try simp only [Act.put, List.getElem_toArray, List.getElem_cons_succ, List.getElem_cons_zero, List.setIfInBounds_toArray, List.set_cons_succ, List.set_cons_zero])
            refine wpAnyH_take (i := 20) (v := undef) rfl (by kernel_rfl) (by kernel_rfl) (by kernel_rfl) (fun _ _ _ h => by cases h.1) (.inr ⟨by kernel_rfl, rfl⟩) hH ?_
            (try simp only [Act.put, List.getElem_toArray, List.getElem_cons_succ, List.getElem_cons_zero, List.setIfInBounds_toArray, List.set_cons_succ, List.set_cons_zero])
            refine wpAnyH_take (i := 21) (v := undef) rfl (by kernel_rfl) (by kernel_rfl) (by kernel_rfl) (fun _ _ _ h => by cases h.1) (.inr ⟨by kernel_rfl, rfl⟩) hH ?_
            (try simp only [Act.put, List.getElem_toArray, List.getElem_cons_succ, List.getElem_cons_zero, List.setIfInBounds_toArray, List.set_cons_succ, List.set_cons_zero])
            refine wpAnyH_take (i := 22) (v := (.bool false)) rfl (by kernel_rfl) (by kernel_rfl) (by kernel_rfl) (fun _ _ _ h => by cases h.1) (.inl ⟨by kernel_rfl, fun w hw => by go_simp⟩) hH ?_
            (try simp only [Act.put, List.getElem_toArray, List.getElem_cons_succ, List.getElem_cons_zero, List.setIfInBounds_toArray, List.set_cons_succ, List.set_cons_zero])
            refine wpAnyH_take (i := 23) (v := (.bool false)) rfl (by kernel_rfl) (by kernel_rfl) (by kernel_rfl) (fun _ _ _ h => by cases h.1) (.inl ⟨by kernel_rfl, fun w hw => by go_simp⟩) hH ?_
            (try simp only [Act.put, List.getElem_toArray, List.getElem_cons_succ, List.getElem_cons_zero, List.setIfInBounds_toArray, List.set_cons_succ, List.set_cons_zero])
            refine wpAnyH_done (by kernel_rfl) ?_ _
            exact ⟨rfl, rfl, hH⟩
          rintro e1 a1 W1 ⟨rfl, rfl, A, R, hB⟩
          replace A := Go.Lib.hid A; replace R := Go.Lib.hid R; replace hB := Go.Lib.hid hB
          go_wp2
          go_roundw
          case rel => exact ⟨_, hlt, by go_num, HUn, A.out, R.out, hB.out⟩
          case measure => simp [intOf]; omega
        · obtain ⟨x, y, ex, ey, hx, hy⟩ := ok_hasP s hok _ _ (pathU_prev s px py j HU.out)
          have HN := Go.Lib.hid fun w => lstep_any x y (px (j + 1)) (py (j + 1)) w hx hy
          rw [← ex, ← ey] at HN
          have hst : pathU s px py (j + 1 + 1) = (pathU s px py (j + 1) && (hasB s (px (j + 1)) (py (j + 1)) && (decide (j + 1 = 0) || stepU (px j) (py j) (px (j + 1)) (py (j + 1)) 4))) := rfl
          rw [HU.out, hh] at hst
          have hno := pathU_no s px py (j + 1) n hlt
          rw [hh] at hno
          clear hh hpr ex ey
          go_wp2
          refine Code.wp_mono (Q := fun e a' W' => e = .normal ∧ a' = { tmps := #[.pointer (some ⟨b, 0, none⟩), .slice (some ⟨D, 0, none⟩) n n, undef, undef, u4, .int .i64 (j + 1 : Nat), .int .i64 (j + 1 : Nat), .slice (some ⟨D, 0, none⟩) n n, .int .i64 n, .bool true, u10, u11, .pointer (some ⟨b, 0, none⟩), .slice (some ⟨D, 0, none⟩) n n, .int .i64 (j + 1 : Nat), .pointer (some ⟨D, (j + 1) * 2, none⟩), .agg (vrow 2 (spAt (px (j + 1)) (py (j + 1)))), .bool true, .bool false, .bool false, .int .i64 (j + 1 : Nat), .bool true, .bool true, .slice (some ⟨D, 0, none⟩) n n, .int .i64 (j + 1 : Nat), .int .i64 j, .pointer (some ⟨D, j * 2, none⟩), .agg (vrow 2 (spAt (px j) (py j))), .slice (some ⟨D, 0, none⟩) n n, .int .i64 (j + 1 : Nat), .pointer (some ⟨D, (j + 1) * 2, none⟩), .agg (vrow 2 (spAt (px (j + 1)) (py (j + 1)))), .bool (stepU (px j) (py j) (px (j + 1)) (py (j + 1)) 4), .bool (!stepU (px j) (py j) (px (j + 1)) (py (j + 1)) 4), .bool (!stepU (px j) (py j) (px (j + 1)) (py (j + 1)) 4), .bool (!stepU (px j) (py j) (px (j + 1)) (py (j + 1)) 4), undef, undef, undef], defers := [] } ∧ W'.heap[b]? = some (.cells s.row 32) ∧ W'.heap[D]? = some (.cells (vrow (n * 2) (spf px py)) 73) ∧ Below w.heap.size w W') ?_ ?_
          rotate_left
          · refine wp_region_held_drew (S := fun W' => W'.heap[b]? = some (.cells s.row 32) ∧ W'.heap[D]? = some (.cells (vrow (n * 2) (spf px py)) 73) ∧ Below w.heap.size w W') (by kernel_rfl) ⟨drwP A.out, drwP R.out, hB.out.drew⟩ (fun hH => ?_)
            generalize World.drew _ = W at hH ⊢
            refine wpAnyH_take (i := 0) (v := (.pointer (some ⟨b, 0, none⟩))) rfl (by kernel_rfl) (by kernel_rfl) (by kernel_rfl) (fun _ _ _ h => by cases h.1) (.inl ⟨by kernel_rfl, fun w hw => by go_simp⟩) hH ?_
            (try simp only [Act.put, List.getElem_toArray, List.getElem_cons_succ, List.getElem_cons_zero, List.setIfInBounds_toArray, List.set_cons_succ, List.set_cons_zero])
            refine wpAnyH_take (i := 1) (v := (.slice (some ⟨D, 0, none⟩) n n)) rfl (by kernel_rfl) (by kernel_rfl) (by kernel_rfl) (fun _ _ _ h => by cases h.1) (.inl ⟨by kernel_rfl, fun w hw => by go_simp⟩) hH ?_
            (try simp only [Act.put, List.getElem_toArray, List.getElem_cons_succ, List.getElem_cons_zero, List.setIfInBounds_toArray, List.set_cons_succ, List.set_cons_zero])
            refine wpAnyH_take (i := 2) (v := (.int .i64 (j + 1 : Nat))) rfl (by kernel_rfl) (by kernel_rfl) (by kernel_rfl) (fun _ _ _ h => by cases h.1) (.inl ⟨by kernel_rfl, fun w hw => by go_simp⟩) hH ?_
            (try simp only [Act.put, List.getElem_toArray, List.getElem_cons_succ, List.getElem_cons_zero, List.setIfInBounds_toArray, List.set_cons_succ, List.set_cons_zero])
            refine wpAnyH_take (i := 3) (v := (.pointer (some ⟨D, (j + 1) * 2, none⟩))) rfl (by kernel_rfl) (by kernel_rfl) (by kernel_rfl) (fun _ _ _ h => by cases h.1) (.inl ⟨by kernel_rfl, fun w hw => by go_simp <;> (intro hh; exfalso; omega)⟩) hH ?_
            (try simp only [Act.put, List.getElem_toArray, List.getElem_cons_succ, List.getElem_cons_zero, List.setIfInBounds_toArray, List.set_cons_succ, List.set_cons_zero])
            refine wpAnyH_take (i := 4) (v := (.agg (vrow 2 (spAt (px (j + 1)) (py (j + 1)))))) rfl (by kernel_rfl) (by kernel_rfl) (by kernel_rfl) (fun _ _ _ h => by cases h.1) (yields_midP (by kernel_rfl) 73 _ rfl D ((j + 1) * 2) (by kernel_rfl) (n * 2) 2 (spf px py) _ (by omega) 73 _ Tryd.underlying73 rfl size_spot (spf_two px py (j + 1)) (fun _ h => h.2.1)) hH ?_
            (try simp only [Act.put, List.getElem_toArray, List.getElem_cons_succ, List.getElem_cons_zero, List.setIfInBounds_toArray, List.set_cons_succ, List.set_cons_zero])
            refine wpAnyH_ready (rs := [5]) (by kernel_rfl) (by simp) (AllReadyH.cons rfl (fun K hK => ?_) AllReadyH.nil)
            rw [if_pos (by kernel_rfl)]
            go_simp
            go_at_call 107
            refine (HI.out _ hH.1).mono ?_
            rintro o X ⟨rfl, hb⟩
            replace hH : X.heap[b]? = some (.cells s.row 32) ∧ X.heap[D]? = some (.cells (vrow (n * 2) (spf px py)) 73) ∧ Below w.heap.size w X := ⟨row_next hb hH.1, row_next hb hH.2.1, hH.2.2.trans (hb.mono hH.2.2.size)⟩
            clear hb
            refine hK.out _ _ hH (fun hH => ?_)
            clear hK K
            (try simp only [Act.put, List.getElem_toArray, List.getElem_cons_succ, List.getElem_cons_zero, List.setIfInBounds_toArray, List.set_cons_succ, List.set_cons_zero])
            refine wpAnyH_take (i := 6) (v := (.bool false)) rfl (by kernel_rfl) (by kernel_rfl) (by kernel_rfl) (fun _ _ _ h => by cases h.1) (.inl ⟨by kernel_rfl, fun w hw => by go_simp⟩) hH ?_
            (try simp only [Act.put, List.getElem_toArray, List.getElem_cons_succ, List.getElem_cons_zero, List.setIfInBounds_toArray, List.set_cons_succ, List.set_cons_zero])
            refine wpAnyH_take (i := 7) (v := (.bool false)) rfl (by kernel_rfl) (by kernel_rfl) (by kernel_rfl) (fun _ _ _ h => by cases h.1) (.inl ⟨by kernel_rfl, fun w hw => by go_simp⟩) hH ?_
            (try simp only [Act.put, List.getElem_toArray, List.getElem_cons_succ, List.getElem_cons_zero, List.setIfInBounds_toArray, List.set_cons_succ, List.set_cons_zero])
            refine wpAnyH_take (i := 8) (v := (.int .i64 (j + 1 : Nat))) rfl (by kernel_rfl) (by kernel_rfl) (by kernel_rfl) (fun _ _ _ h => by cases h.1) (.inl ⟨by kernel_rfl, fun w hw => by go_simp⟩) hH ?_
            (try simp only [Act.put, List.getElem_toArray, List.getElem_cons_succ, List.getElem_cons_zero, List.setIfInBounds_toArray, List.set_cons_succ, List.set_cons_zero])
            refine wpAnyH_take (i := 9) (v := (.bool true)) rfl (by kernel_rfl) (by kernel_rfl) (by kernel_rfl) (fun _ _ _ h => by cases h.1) (.inl ⟨by kernel_rfl, fun w hw => by go_simp⟩) hH ?_
            (try simp only [Act.put, List.getElem_toArray, List.getElem_cons_succ, List.getElem_cons_zero, List.setIfInBounds_toArray, List.set_cons_succ, List.set_cons_zero])
            refine wpAnyH_take (i := 10) (v := (.bool true)) rfl (by kernel_rfl) (by kernel_rfl) (by kernel_rfl) (fun _ _ _ h => by cases h.1) (.inl ⟨by kernel_rfl, fun w hw => by go_simp⟩) hH ?_
            (try simp only [Act.put, List.getElem_toArray, List.getElem_cons_succ, List.getElem_cons_zero, List.setIfInBounds_toArray, List.set_cons_succ, List.set_cons_zero])
            refine wpAnyH_take (i := 11) (v := (.slice (some ⟨D, 0, none⟩) n n)) rfl (by kernel_rfl) (by kernel_rfl) (by kernel_rfl) (fun _ _ _ h => by cases h.1) (.inl ⟨by kernel_rfl, fun w hw => by go_simp⟩) hH ?_
            (try simp only [Act.put, List.getElem_toArray, List.getElem_cons_succ, List.getElem_cons_zero, List.setIfInBounds_toArray, List.set_cons_succ, List.set_cons_zero])
            refine wpAnyH_take (i := 12) (v := (.int .i64 (j + 1 : Nat))) rfl (by kernel_rfl) (by kernel_rfl) (by kernel_rfl) (fun _ _ _ h => by cases h.1) (.inl ⟨by kernel_rfl, fun w hw => by go_simp⟩) hH ?_
            (try simp only [Act.put, List.getElem_toArray, List.getElem_cons_succ, List.getElem_cons_zero, List.setIfInBounds_toArray, List.set_cons_succ, List.set_cons_zero])
            refine wpAnyH_take (i := 13) (v := (.int .i64 j)) rfl (by kernel_rfl) (by kernel_rfl) (by kernel_rfl) (fun _ _ _ h => by cases h.1) (.inl ⟨by kernel_rfl, fun w hw => by go_simp <;> (first | exact IntWalk.i64_in _ (by omega) | exact IntWalk.i64_in _ ⟨by omega, by omega⟩)⟩) hH ?_
            (try simp only [Act.put, List.getElem_toArray, List.getElem_cons_succ, List.getElem_cons_zero, List.setIfInBounds_toArray, List.set_cons_succ, List.set_cons_zero])
            refine wpAnyH_take (i := 14) (v := (.pointer (some ⟨D, j * 2, none⟩))) rfl (by kernel_rfl) (by kernel_rfl) (by kernel_rfl) (fun _ _ _ h => by cases h.1) (.inl ⟨by kernel_rfl, fun w hw => by go_simp <;> (intro hh; exfalso; omega)⟩) hH ?_
            (try simp only [Act.put, List.getElem_toArray, List.getElem_cons_succ, List.getElem_cons_zero, List.setIfInBounds_toArray, List.set_cons_succ, List.set_cons_zero])
            refine wpAnyH_take (i := 15) (v := (.agg (vrow 2 (spAt (px j) (py j))))) rfl (by kernel_rfl) (by kernel_rfl) (by kernel_rfl) (fun _ _ _ h => by cases h.1) (yields_midP (by kernel_rfl) 73 _ rfl D (j * 2) (by kernel_rfl) (n * 2) 2 (spf px py) _ (by omega) 73 _ Tryd.underlying73 rfl size_spot (spf_two px py j) (fun _ h => h.2.1)) hH ?_
            (try simp only [Act.put, List.getElem_toArray, List.getElem_cons_succ, List.getElem_cons_zero, List.setIfInBounds_toArray, List.set_cons_succ, List.set_cons_zero])
            refine wpAnyH_take (i := 16) (v := (.slice (some ⟨D, 0, none⟩) n n)) rfl (by kernel_rfl) (by kernel_rfl) (by kernel_rfl) (fun _ _ _ h => by cases h.1) (.inl ⟨by kernel_rfl, fun w hw => by go_simp⟩) hH ?_
            (try simp only [Act.put, List.getElem_toArray, List.getElem_cons_succ, List.getElem_cons_zero, List.setIfInBounds_toArray, List.set_cons_succ, List.set_cons_zero])
            refine wpAnyH_take (i := 17) (v := (.int .i64 (j + 1 : Nat))) rfl (by kernel_rfl) (by kernel_rfl) (by kernel_rfl) (fun _ _ _ h => by cases h.1) (.inl ⟨by kernel_rfl, fun w hw => by go_simp⟩) hH ?_
            (try simp only [Act.put, List.getElem_toArray, List.getElem_cons_succ, List.getElem_cons_zero, List.setIfInBounds_toArray, List.set_cons_succ, List.set_cons_zero])
            refine wpAnyH_take (i := 18) (v := (.pointer (some ⟨D, (j + 1) * 2, none⟩))) rfl (by kernel_rfl) (by kernel_rfl) (by kernel_rfl) (fun _ _ _ h => by cases h.1) (.inl ⟨by kernel_rfl, fun w hw => by go_simp <;> (intro hh; exfalso; omega)⟩) hH ?_
            (try simp only [Act.put, List.getElem_toArray, List.getElem_cons_succ, List.getElem_cons_zero, List.setIfInBounds_toArray, List.set_cons_succ, List.set_cons_zero])
            refine wpAnyH_take (i := 19) (v := (.agg (vrow 2 (spAt (px (j + 1)) (py (j + 1)))))) rfl (by kernel_rfl) (by kernel_rfl) (by kernel_rfl) (fun _ _ _ h => by cases h.1) (yields_midP (by kernel_rfl) 73 _ rfl D ((j + 1) * 2) (by kernel_rfl) (n * 2) 2 (spf px py) _ (by omega) 73 _ Tryd.underlying73 rfl size_spot (spf_two px py (j + 1)) (fun _ h => h.2.1)) hH ?_
            (try simp only [Act.put, List.getElem_toArray, List.getElem_cons_succ, List.getElem_cons_zero, List.setIfInBounds_toArray, List.set_cons_succ, List.set_cons_zero])
            refine wpAnyH_ready (rs := [20]) (by kernel_rfl) (by simp) (AllReadyH.cons rfl (fun K hK => ?_) AllReadyH.nil)
            rw [if_pos (by kernel_rfl)]
            go_simp
            go_at_call 127
            refine (HN.out _).mono ?_
            rintro o X ⟨rfl, hb⟩
            replace hH : X.heap[b]? = some (.cells s.row 32) ∧ X.heap[D]? = some (.cells (vrow (n * 2) (spf px py)) 73) ∧ Below w.heap.size w X := ⟨row_next hb hH.1, row_next hb hH.2.1, hH.2.2.trans (hb.mono hH.2.2.size)⟩
            clear hb
            refine hK.out _ _ hH (fun hH => ?_)
            clear hK K
            (try simp only [Act.put, List.getElem_toArray, List.getElem_cons_succ, List.getElem_cons_zero, List.setIfInBounds_toArray, List.set_cons_succ, List.set_cons_zero])
            refine wpAnyH_take (i := 21) (v := (.bool (!stepU (px j) (py j) (px (j + 1)) (py (j + 1)) 4))) rfl (by kernel_rfl) (by kernel_rfl) (by kernel_rfl) (fun _ _ _ h => by cases h.1) (.inl ⟨by kernel_rfl, fun w hw => by go_simp⟩) hH ?_
            (try simp only [Act.put, List.getElem_toArray, List.getElem_cons_succ, List.getElem_cons_zero, List.setIfInBounds_toArray, List.set_cons_succ, List.set_cons_zero])
            refine wpAnyH_take (i := 22) (v := (.bool (!stepU (px j) (py j) (px (j + 1)) (py (j + 1)) 4))) rfl (by kernel_rfl) (by kernel_rfl) (by kernel_rfl) (fun _ _ _ h => by cases h.1) (.inl ⟨by kernel_rfl, fun w hw => by go_simp⟩) hH ?_
            (try simp only [Act.put, List.getElem_toArray, List.getElem_cons_succ, List.getElem_cons_zero, List.setIfInBounds_toArray, List.set_cons_succ, List.set_cons_zero])
            refine wpAnyH_take (i := 23) (v := (.bool (!stepU (px j) (py j) (px (j + 1)) (py (j + 1)) 4))) rfl (by kernel_rfl) (by kernel_rfl) (by kernel_rfl) (fun _ _ _ h => by cases h.1) (.inl ⟨by kernel_rfl, fun w hw => by go_simp⟩) hH ?_
            (try simp only [Act.put, List.getElem_toArray, List.getElem_cons_succ, List.getElem_cons_zero, List.setIfInBounds_toArray, List.set_cons_succ, List.set_cons_zero])
            refine wpAnyH_done (by kernel_rfl) ?_ _
            exact ⟨rfl, rfl, hH⟩
          rintro e1 a1 W1 ⟨rfl, rfl, A, R, hB⟩
          replace A := Go.Lib.hid A; replace R := Go.Lib.hid R; replace hB := Go.Lib.hid hB
          cases hs : stepU (px j) (py j) (px (j + 1)) (py (j + 1)) 4
          · have HUn := hno (by show (true && (decide (j + 1 = 0) || stepU (px j) (py j) (px (j + 1)) (py (j + 1)) 4)) = false; rw [hs]; simp)
            clear hst hno hs
            have HP := Go.Lib.hid HUn
            go_wp2
            go_ret
            exact ⟨by rw [HP.out, Bool.false_and]; rfl, hB.out⟩
          · have HUn : pathU s px py (j + 1 + 1) = true := by rw [hst, hs]; simp
            clear hst hno hs
            go_wp2
            go_roundw
            case rel => exact ⟨_, hlt, by go_num, HUn, A.out, R.out, hB.out⟩
            case measure => simp [intOf]; omega
    · obtain rfl : k = n := by omega
      have hd : decide ((k : Int) < (k : Int)) = false := by simp
      have HL := Go.Lib.hid fun w => lin_bP k 1 80 w
      go_wp2_with (first
        | go_skip
        | (go_at_call 84; (refine (HL.out _).mono ?_); rintro e w1 ⟨rfl, hb⟩; replace hB := Go.Lib.hid (below_next hB.out hb); clear hb))
      go_ret
      exact ⟨by rw [HU.out, Bool.true_and]; simp; rw [show decide (1 ≤ (k : Int)) = decide (1 ≤ k) from decide_eq_decide.2 (by omega), show decide ((k : Int) ≤ 80) = decide (k ≤ 80) from decide_eq_decide.2 (by omega)], hB.out⟩
end Go.Proofs.YtfkialifnkfgcaaDoor
