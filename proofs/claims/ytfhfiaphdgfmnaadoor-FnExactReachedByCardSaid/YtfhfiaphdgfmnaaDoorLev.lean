import Derived.Deep.RegionHeld3
import Derived.Test.YtfhfiaphdgfmnaaDoorPlA
import Derived.Test.YtfhfiaphdgfmnaaDoorStS
import Derived.Test.YtfhfiaphdgfmnaaDoorEqSheet
namespace Go.Proofs.YtfhfiaphdgfmnaaDoor
open Go.RowKit
set_option maxRecDepth 100000
set_option linter.unusedVariables false
set_option linter.unusedSimpArgs false
theorem own_row_ofK {W : World} {base g cap size n : Nat} {t : TypeId} {xs : List Value} (h : W.ownsRow base t size (.slice (some ⟨g, 0, none⟩) n cap) n xs) : ∃ f : Nat → Value, W.heap[g]? = some (.cells (vrow (cap * size) f) t) ∧ n ≤ cap ∧ ∀ (j : Nat) (u : Value), j < n * size → xs[j]? = some u → f j = u := by
  rcases h.2 with ⟨hv, _⟩ | ⟨g', cap', cur, hv, _, hg, hcap, _, hsz, ht⟩
  · cases hv
  · simp only [Value.slice.injEq, Option.some.injEq, Addr.mk.injEq] at hv
    obtain ⟨⟨rfl, _⟩, _, rfl⟩ := hv
    refine ⟨fun i => cur.getD i undef, ?_, hcap, ?_⟩
    · rw [hg]
      congr 2
      apply Array.ext_getElem?
      intro i
      by_cases hi : i < cap * size
      · rw [vrow_get _ _ _ hi, Array.getD_eq_getD_getElem?, Array.getElem?_eq_getElem (by omega)]; rfl
      · rw [vrow_none _ _ _ hi, Array.getElem?_eq_none (by omega)]
    · intro j u hj hu
      show cur.getD j undef = u
      rw [← ht, List.getElem?_take, if_pos hj] at hu
      rw [Array.getD_eq_getD_getElem?]
      simp only [Array.getElem?_toList] at hu
      rw [hu]; rfl
/-- a sheet with its number -/
def nm (s : Sh) (k : Nat) (i : Nat) : Value := if i < 266 then s.at i else .int .i64 k
theorem nm_one (s : Sh) (k i : Nat) : (nm s k i).oneCell' = true := by unfold nm; split; exact Sh.one _ _; rfl
theorem nm_cells (s : Sh) (k : Nat) : ∀ u ∈ (vrow 267 (nm s k)).toList, u.oneCell' = true := fun u hu => by
  simp [vrow] at hu
  obtain ⟨i, _, rfl⟩ := hu
  exact nm_one _ _ _
theorem nm_sub (s : Sh) (k : Nat) : vrow 266 (fun i => nm s k (0 + i)) = vrow 266 s.at := vrow_ext _ _ _ fun i hi => by rw [Nat.zero_add]; unfold nm; rw [if_pos hi]
theorem nm_no (s : Sh) (k : Nat) : nm s k 266 = .int .i64 k := by unfold nm; rw [if_neg (by omega)]
theorem size_nu : (Tryd.prog.info? 94).map (·.size) = some 267 := by kernel_rfl
theorem info_nu : (Tryd.prog.info? 94).map (fun i => (i.zero, i.size, i.bytes)) = some (some (.agg (vrow 267 (nm Sh.zero 0))), 267, 536) := by kernel_rfl
theorem zero_nu : ∀ w, (zeroValue 94).run Tryd.prog w = .ok (.agg (vrow 267 (nm Sh.zero 0))) w := fun _ => by kernel_rfl
theorem built_nm (s : Sh) (k : Nat) : Tryd.prog.built 94 [(0, .agg (vrow 266 s.at)), (1, .int .i64 k)] = some (vrow 267 (nm s k)) := by kernel_rfl
theorem run_bsn (s : Sh) (k : Nat) (w : World) : (Instr.buildSlice 91 1 #[(0, .agg (vrow 267 (nm s k)))]).run Tryd.prog w = .ok (.slice (some ⟨w.heap.size, 0, none⟩) 1 1) (w.alloc (.cells (vrow 267 (nm s k)) 94)) := by kernel_rfl
theorem wpList_bsl {P : Program} {ops : Array Oper} {rest : List Oper} {o : Oper} {a : Act} {w : World} {Q : Exit → Act → World → Prop} (hgd : o.guard = none) (t : TypeId) (x : Operand) (hop : o.op = .buildSlice t 1 #[(0, x)]) (v : Value) (hx : a.eval x = v) (e : TypeId) (cs : Array Value)
    (hr : (Instr.buildSlice t 1 #[(0, v)]).run P w = .ok (.slice (some ⟨w.heap.size, 0, none⟩) 1 1) (w.alloc (.cells cs e)))
    (h : wpList P ops Q rest (a.put o.dst (.slice (some ⟨w.heap.size, 0, none⟩) 1 1)) (w.alloc (.cells cs e))) : wpList P ops Q (o :: rest) a w := by
  refine wpList_plain hgd fun K hK => ?_
  unfold Oper.wp
  simp [execOp, hop, hx, hr, Result.andThen]
  exact hK _ _ h
theorem info_partsK {P : Program} {t : TypeId} {z : Value} {n m : Nat} (h : (P.info? t).map (fun i => (i.zero, i.size, i.bytes)) = some (some z, n, m)) : ∃ i, P.info? t = some i ∧ i.zero = some z ∧ i.size = n ∧ i.bytes = m := by
  obtain ⟨i, hi, hzz⟩ := Option.map_eq_some_iff.1 h
  simp only [Prod.mk.injEq] at hzz
  exact ⟨i, hi, hzz.1, hzz.2.1, hzz.2.2⟩
/-- the cells of k of them -/
def xsL (ss : Nat → Sh) : Nat → List Value
  | 0 => []
  | k + 1 => xsL ss k ++ (vrow 267 (nm (ss k) k)).toList
theorem xsL_len (ss : Nat → Sh) : ∀ k, (xsL ss k).length = k * 267
  | 0 => rfl
  | k + 1 => by
    show (xsL ss k ++ (vrow 267 (nm (ss k) k)).toList).length = _
    rw [List.length_append, xsL_len ss k, show (vrow 267 (nm (ss k) k)).toList.length = 267 by simp [vrow]]
    omega
theorem xsL_at (ss : Nat → Sh) : ∀ n k j, k < n → j < 267 → (xsL ss n)[k * 267 + j]? = some (nm (ss k) k j)
  | 0, k, j, h, _ => by omega
  | n + 1, k, j, h, hj => by
    show (xsL ss n ++ (vrow 267 (nm (ss n) n)).toList)[k * 267 + j]? = _
    by_cases he : k = n
    · subst he
      rw [List.getElem?_append_right (by rw [xsL_len]; omega), xsL_len, show k * 267 + j - k * 267 = j by omega, Array.getElem?_toList, vrow_get _ _ _ hj]
    · rw [List.getElem?_append_left (by rw [xsL_len]; omega)]
      exact xsL_at ss n k j (by omega) hj
/-- n numbered sheets that lie in a row from B on -/
def NuP (w : World) (v : Value) (n : Nat) (ss : Nat → Sh) (B : Nat) : Prop := ∃ g N f c, v = .slice (some ⟨g, 0, none⟩) n c ∧ B ≤ g ∧ n * 267 ≤ N ∧ w.heap[g]? = some (.cells (vrow N f) 94) ∧ ∀ k, k < n → ∀ j, j < 267 → f (k * 267 + j) = nm (ss k) k j
theorem own_nu {W : World} {base g n : Nat} {ss : Nat → Sh} (h : W.ownsRow base 94 267 (.slice (some ⟨g, 0, none⟩) n n) n (xsL ss n)) (hg : base ≤ g) : NuP W (.slice (some ⟨g, 0, none⟩) n n) n ss base := by
  obtain ⟨f, h1, _, h2⟩ := own_row_ofK h
  exact ⟨g, n * 267, f, n, rfl, hg, Nat.le_refl _, h1, fun k hk j hj => h2 _ _ (by omega) (xsL_at ss n k j hk hj)⟩
set_option maxHeartbeats 4000000 in
theorem lev_any (ss : Nat → Sh) (D n cp : Nat) (w : World) (hn : n ≤ 1048576) (h1 : w.heap[D]? = some (.cells (vrow (n * 266) (stF ss)) 39)) : Calls Tryd.prog 63 #[.slice (some ⟨D, 0, none⟩) n cp] w fun e w' => ∃ v, e = .returned v ∧ NuP w' v n ss w.heap.size ∧ Below w.heap.size w w' := by
  obtain ⟨i0, hi, hz0, hz1, hz2⟩ := info_partsK info_nu
  have hD := row_lt h1
  have P := Go.Lib.hid h1
  have zz := zero_sheet
  go_enter Tryd.func63, Tryd.ntmps63
  go_wp2_with (first
    | go_skip
    | ((with_reducible refine wlAt 8 rfl ?_); refine wpList_make_own _ rfl (.const (.int .i64 0)) (.tmp 7) 91 rfl (w.heap.size) 94 i0 (.agg (vrow 267 (nm Sh.zero 0))) 267 Tryd.underlying91 hi hz0 hz1 .i64 .i64 n n rfl rfl rfl (by rw [hz2]; omega) (by simp only [maxLen]; omega) (Nat.le_refl _) ?_; intro w1 hO1 hg1; have hB := Go.Lib.hid ((Below.refl w.heap.size w).grown hg1 (Nat.le_refl _) (fun q hq => by cases hq)); replace P := Go.Lib.hid ((hg1.block _ hD (by simp)).trans P.out); have O := Go.Lib.hid hO1; have hgl1 : w.heap.size < w1.heap.size := (hO1.lt _ rfl).2; clear hg1 hO1))
  have p1 := P.out; have o1 := O.out; have b1 := hB.out
  clear P O hB
  generalize hgv : w.heap.size = g at *
  replace hgv := Go.Lib.hid hgv
  go_loopw [3, 11] (fun lv iv wr => ∃ k : Nat, k ≤ n ∧ iv = .int .i64 k ∧ lv = .slice (some ⟨g, 0, none⟩) k n ∧ wr.heap[D]? = some (.cells (vrow (n * 266) (stF ss)) 39) ∧ wr.ownsRow g 94 267 (.slice (some ⟨g, 0, none⟩) k n) k (xsL ss k) ∧ Below g w wr) (fun _ iv _ => n - (intOf iv).toNat)
  case atStart => exact ⟨0, by omega, rfl, rfl, p1, o1, b1⟩
  case round =>
    clear p1 o1 b1
    obtain ⟨k, hk, rfl, rfl, P, O, hB⟩ := hrel
    by_cases hlt : k < n
    · have hkI : (k : Int) < (n : Int) := by omega
      have hk0 : (0 : Int) ≤ (k : Int) := by omega
      have hnl : (n : Int) ≤ 1048576 := by omega
      have HR := Go.Lib.hid (stF_row ss k)
      have hx : xsL ss (k + 1) = xsL ss k ++ (vrow 267 (nm (ss k) k)).toList := rfl
      have HBS := Go.Lib.hid (run_bsn (ss k) k)
      generalize ss k = sk at HR hx HBS
      have HX := Go.Lib.hid hx
      clear hx
      replace P := Go.Lib.hid P; replace O := Go.Lib.hid O; replace hB := Go.Lib.hid hB
      go_wp2_with (first
        | go_skip
        | ((with_reducible refine wlAt 15 rfl ?_); refine wpList_loadmid rfl 39 (.tmp 14) rfl D (k * 266) rfl (n * 266) 266 (stF ss) 39 _ Tryd.underlying39 rfl size_sheet P.out (by omega) ?_; rw [HR.out])
        | ((with_reducible refine wlOp (.store 39 (.tmp 5) (.tmp 15)) rfl ?_); refine wpList_storeall rfl 39 (.tmp 5) (.tmp 15) rfl _ rfl 266 Sh.zero.at sk.at rfl 39 size_sheet (heap_at _ _ _ rfl) (fun i _ => Sh.one _ i) ?_; rw [setRow_at _ _ _ _ _ rfl]; have X := Go.Lib.hid (heap_at wr (.cells (vrow 266 sk.at) 39) _ rfl); have nP := row_lt P.out; replace P := Go.Lib.hid (heap_past _ (.cells (vrow 266 sk.at) 39) _ _ nP P.out); replace O := Go.Lib.hid (O.out.alloc (.cells (vrow 266 sk.at) 39)); replace hB := Go.Lib.hid (hB.out.alloc (by rw [← hgv.out]; exact hB.out.size) (.cells (vrow 266 sk.at) 39)); generalize wr.heap.size = xb at X ⊢; generalize wr.alloc _ = wx at X P O hB ⊢)
        | ((with_reducible refine wlAt 17 rfl ?_); refine wpList_loadall rfl 39 (.tmp 5) rfl _ rfl 266 sk.at 39 _ Tryd.underlying39 rfl size_sheet X.out ?_)
        | ((with_reducible refine wlAt 19 rfl ?_); refine wpList_built rfl 94 [(0, .tmp 17), (1, .tmp 18)] rfl _ rfl _ (built_nm sk k) ?_; simp only [Act.put, List.setIfInBounds_toArray, List.set_cons_succ, List.set_cons_zero])
        | ((with_reducible refine wlAt 20 rfl ?_); refine wpList_bsl rfl 91 (.tmp 19) rfl _ rfl 94 (vrow 267 (nm sk k)) (HBS.out _) ?_; simp only [Act.put, List.setIfInBounds_toArray, List.set_cons_succ, List.set_cons_zero])
        | ((with_reducible refine wlAt 21 rfl ?_); refine wpList_append_fits _ rfl (.tmp 16) (.tmp 20) 91 rfl g 94 i0 267 Tryd.underlying91 hi hz1 g k n _ rfl (O.out.alloc (.cells (vrow 267 (nm sk k)) 94)) ⟨wx.heap.size, 0, none⟩ 1 1 (vrow 267 (nm sk k)).toList rfl (by simp [vrow]) (World.news_of_block (heap_at _ _ _ rfl)) (nm_cells sk k) (by omega) ?_; intro w4 hO4 hg4; have nP := row_lt P.out; have hgp : g < wx.heap.size := (O.out.lt g rfl).2; replace P := Go.Lib.hid (grd_row hg4 (heap_past _ (.cells (vrow 267 (nm sk k)) 94) _ _ nP P.out) (show D ≠ g by omega)); replace hB := Go.Lib.hid (grd_below (hB.out.alloc (Nat.le_of_lt hgp) (.cells (vrow 267 (nm sk k)) 94)) hg4 (by simp <;> omega) (Nat.le_refl _)); replace O := Go.Lib.hid hO4; clear hg4 hO4 nP hgp))
      go_roundw
      case rel => exact ⟨k + 1, by omega, by go_num, rfl, P.out, by rw [HX.out]; exact O.out, hB.out⟩
      case measure => simp [intOf]; omega
    · obtain rfl : k = n := by omega
      have hd : decide ((k : Int) < (k : Int)) = false := by simp
      go_wp2
      go_ret
      obtain rfl := hgv.out
      exact ⟨_, rfl, own_nu O (Nat.le_refl _), hB⟩
end Go.Proofs.YtfhfiaphdgfmnaaDoor
