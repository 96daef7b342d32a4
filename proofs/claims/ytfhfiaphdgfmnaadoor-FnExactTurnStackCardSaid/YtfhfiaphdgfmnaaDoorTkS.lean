import Derived.Deep.RegionHeld3
import Derived.Test.YtfhfiaphdgfmnaaDoorMirO
import Derived.Test.YtfhfiaphdgfmnaaDoorMkR
import Derived.Test.YtfhfiaphdgfmnaaDoorKA
namespace Go.Proofs.YtfhfiaphdgfmnaaDoor
open Go.RowKit
set_option maxRecDepth 100000
set_option linter.unusedVariables false
set_option linter.unusedSimpArgs false
theorem info_shK : (Tryd.prog.info? 39).map (fun i => (i.zero, i.size, i.bytes)) = some (some (.agg (vrow 266 Sh.zero.at)), 266, 522) := by kernel_rfl
theorem sh_cellsK (s : Sh) : ∀ u ∈ (vrow 266 s.at).toList, u.oneCell' = true := fun u hu => by
  simp [vrow] at hu
  obtain ⟨i, _, rfl⟩ := hu
  exact Sh.one _ _
theorem run_bsk (s : Sh) (w : World) : (Instr.buildSlice 35 1 #[(0, .agg (vrow 266 s.at))]).run Tryd.prog w = .ok (.slice (some ⟨w.heap.size, 0, none⟩) 1 1) (w.alloc (.cells (vrow 266 s.at) 39)) := by kernel_rfl
/-- a sheet mirrored -/
def mirS (s : Sh) : Sh := arrS s (fun x y => s.wide.toNat - 1 - x) (fun x y => y) (plainSh s.wide.toNat s.high.toNat) (pairsL s.wide.toNat s.high.toNat)
def turS (ss : Nat → Sh) (n k : Nat) : Sh := mirS (ss (n - 1 - k))
theorem okI_nat {s : Sh} (h : okI s = true) : s.wide = (s.wide.toNat : Int) ∧ s.high = (s.high.toNat : Int) ∧ (1 ≤ s.wide.toNat ∧ s.wide.toNat ≤ 8) ∧ (1 ≤ s.high.toNat ∧ s.high.toNat ≤ 8) := by
  simp only [okI, Bool.and_eq_true, decide_eq_true_eq] at h
  obtain ⟨⟨a1, a2⟩, ⟨a3, a4⟩, _⟩ := h
  omega
theorem lmirK_any (ss : Nat → Sh) (D n k : Nat) (w : World) (hk : k < n) (ho : okI (ss k) = true) (h1 : w.heap[D]? = some (.cells (vrow (n * 266) (stF ss)) 39)) : Calls Tryd.prog 53 #[.pointer (some ⟨D, k * 266, none⟩)] w fun e w' => e = .returned (.agg (vrow 266 (mirS (ss k)).at)) ∧ Below w.heap.size w w' := by
  obtain ⟨e1, e2, h3, h4⟩ := okI_nat ho
  exact specMirCO (ss k) D (k * 266) (n * 266) (stF ss) (by omega) (stF_sub ss k) _ _ w h1 e1 e2 h3 h4
set_option maxHeartbeats 4000000 in
theorem ltk_bad (ss : Nat → Sh) (D n cp : Nat) (tt : Nat → Sh) (w : World) (hn : n ≤ 1048576) (hf : ∀ i, (ss i).fit) (ho : stOk ss n = false) (h1 : w.heap[D]? = some (.cells (vrow (n * 266) (stF ss)) 39)) : Calls Tryd.prog 22 #[.slice (some ⟨D, 0, none⟩) n cp] w fun e w' => ∃ v, e = .returned (.tuple #[v, .int .i64 1]) ∧ SlK w' v 0 tt w'.heap.size ∧ Below w.heap.size w w' := by
  have HO0 := fun w h => lok5_any ss D n cp w hn hf h
  rw [ho] at HO0
  have HO := Go.Lib.hid HO0
  clear HO0 hf ho
  have P : Hid ((w.alloc (.cells #[] 39)).heap[D]? = some (.cells (vrow (n * 266) (stF ss)) 39)) := Go.Lib.hid (heap_past _ _ _ _ (row_lt h1) h1)
  have hB : Hid (Below w.heap.size w (w.alloc (.cells #[] 39))) := Go.Lib.hid ((Below.refl w.heap.size w).alloc (Nat.le_refl _) _)
  clear h1
  go_enter Tryd.func22, Tryd.ntmps22
  go_wp2_with (first
    | go_skip
    | (go_at_call 38; (refine (HO.out _ P.out).mono ?_); rintro o w2 ⟨rfl, hb⟩; replace P := Go.Lib.hid (row_next hb P.out); replace hB := Go.Lib.hid (below_next hB.out hb); clear hb))
  go_ret2
  exact ⟨_, rfl, ⟨_, _, rfl, fun h => absurd h (by omega)⟩, hB.out⟩
set_option maxHeartbeats 4000000 in
theorem ltk_ok (ss : Nat → Sh) (D n cp : Nat) (w : World) (hn : n ≤ 1048576) (hf : ∀ i, (ss i).fit) (ho : stOk ss n = true) (hoo : ∀ k, k < n → okI (ss k) = true) (h1 : w.heap[D]? = some (.cells (vrow (n * 266) (stF ss)) 39)) : Calls Tryd.prog 22 #[.slice (some ⟨D, 0, none⟩) n cp] w fun e w' => ∃ v, e = .returned (.tuple #[v, .int .i64 0]) ∧ PK w' v n (turS ss n) w.heap.size ∧ Below w.heap.size w w' := by
  obtain ⟨i0, hi, hz0, hz1, hz2⟩ := info_partsK info_shK
  have HO0 := fun w h => lok5_any ss D n cp w hn hf h
  rw [ho] at HO0
  have HO := Go.Lib.hid HO0
  have HMM := Go.Lib.hid fun k w hk h => lmirK_any ss D n k w hk (hoo k hk) h
  clear HO0 hf ho hoo
  have hD := row_lt h1
  have O : Hid ((w.alloc (.cells #[] 39)).ownsRow w.heap.size 39 266 (.slice (some ⟨w.heap.size, 0, none⟩) 0 0) 0 []) := Go.Lib.hid (World.ownsRow_made w #[] 0 (Nat.le_refl _) (by decide) rfl)
  have P : Hid ((w.alloc (.cells #[] 39)).heap[D]? = some (.cells (vrow (n * 266) (stF ss)) 39)) := Go.Lib.hid (heap_past _ _ _ _ (row_lt h1) h1)
  have hB : Hid (Below w.heap.size w (w.alloc (.cells #[] 39))) := Go.Lib.hid ((Below.refl w.heap.size w).alloc (Nat.le_refl _) _)
  have hnl : (n : Int) ≤ 1048576 := by omega
  clear h1
  go_enter Tryd.func22, Tryd.ntmps22
  go_wp2_with (first
    | go_skip
    | (go_at_call 38; (refine (HO.out _ P.out).mono ?_); rintro o w2 ⟨rfl, hb⟩; replace P := Go.Lib.hid (row_next hb P.out); replace O := Go.Lib.hid (O.out.kept (grown_next (grown_refl _ none) hb) (by cases hv : Value.ownBlock _ <;> simp)); replace hB := Go.Lib.hid (below_next hB.out hb); clear hb))
  have p1 := P.out; have o1 := O.out; have b1 := hB.out
  clear P O hB HO
  go_loopw [4, 5] (fun v iv wr => ∃ k : Nat, k ≤ n ∧ iv = .int .i64 ((n : Int) - 1 - (k : Int)) ∧ wr.ownsRow w.heap.size 39 266 v k (xsK (turS ss n) k) ∧ wr.heap[D]? = some (.cells (vrow (n * 266) (stF ss)) 39) ∧ Below w.heap.size w wr) (fun _ iv _ => (intOf iv + 1).toNat)
  case atStart => exact ⟨0, by omega, by go_num, o1, p1, b1⟩
  case round =>
    clear p1 o1 b1
    obtain ⟨k, hk, hiv, O, P, hB⟩ := hrel
    by_cases hlt : k < n
    · obtain ⟨r, hr⟩ : ∃ r, n - 1 - k = r := ⟨_, rfl⟩
      rw [show (n : Int) - 1 - (k : Int) = (r : Int) by omega] at hiv
      subst hiv
      have hrn : r < n := by omega
      have HM := Go.Lib.hid fun w h => HMM.out r w hrn h
      have hx : xsK (turS ss n) (k + 1) = xsK (turS ss n) k ++ (vrow 266 (mirS (ss r)).at).toList := by show xsK (turS ss n) k ++ (vrow 266 (mirS (ss (n - 1 - k))).at).toList = _; rw [hr]
      have hnx : (r : Int) - 1 = (n : Int) - 1 - ((k + 1 : Nat) : Int) := by omega
      have HNX := Go.Lib.hid hnx
      have hxl := xsK_len (turS ss n) k
      generalize mirS (ss r) = ms at HM hx
      have HX := Go.Lib.hid hx
      have HBS := Go.Lib.hid (run_bsk ms)
      clear hx hnx
      generalize xsK (turS ss n) k = M at *
      replace P := Go.Lib.hid P; replace O := Go.Lib.hid O; replace hB := Go.Lib.hid hB
      have hrI : (r : Int) < (n : Int) := by omega
      have hr0 : (0 : Int) ≤ (r : Int) := by omega
      have hrd : decide ((0 : Int) ≤ (r : Int)) = true := by simp
      have hrd2 : decide ((r : Int) ≥ 0) = true := by simp
      go_wp2_with (first
        | go_skip
        | (go_at_call 53; (refine (HM.out _ P.out).mono ?_); rintro o w2 ⟨rfl, hb⟩; replace P := Go.Lib.hid (row_next hb P.out); replace O := Go.Lib.hid (O.out.kept (grown_next (grown_refl _ none) hb) (by cases hv : Value.ownBlock _ <;> simp)); replace hB := Go.Lib.hid (below_next hB.out hb); clear hb)
        | ((with_reducible refine wlAt 23 rfl ?_); refine wpList_bsl rfl 35 (.tmp 22) rfl _ rfl 39 (vrow 266 ms.at) (HBS.out _) ?_; simp only [Act.put, List.setIfInBounds_toArray, List.set_cons_succ, List.set_cons_zero])
        | (at_builtin; refine wpList_append_own _ rfl (.tmp 18) (.tmp 23) 35 rfl w.heap.size 39 i0 (.agg (vrow 266 Sh.zero.at)) 266 522 Tryd.underlying35 hi hz0 hz1 hz2 rfl (by decide) _ _ _ rfl (O.out.alloc _) ⟨w2.heap.size, 0, none⟩ 1 1 (vrow 266 ms.at).toList rfl (by simp [vrow]) (World.news_of_block (heap_at _ _ _ rfl)) (sh_cellsK ms) (by simp only [maxLen]; omega) (by omega) (by have := hB.out.size; simp; omega) ?_; intro v' w4 hown' hgrow _))
      have hov := O.out.lt
      have lp := row_lt P.out; have lb := hB.out.size
      have P1 : w4.heap[D]? = some (.cells (vrow (n * 266) (stF ss)) 39) := (hgrow.block _ (by simp; omega) (fun e => by have := (hov _ e.symm).1; omega)).trans (heap_past _ _ _ _ lp P.out)
      have B1 : Below w.heap.size w w4 := (hB.out.alloc hB.out.size _).grown hgrow (by simp; omega) (fun q hq => (hov q hq).1)
      go_roundw
      case rel => exact ⟨k + 1, by omega, by rw [← HNX.out], by rw [HX.out]; exact hown', P1, B1⟩
      case measure => simp [intOf]
    · obtain rfl : k = n := by omega
      rw [show (k : Int) - 1 - (k : Int) = -1 by omega] at hiv
      subst hiv
      replace O := Go.Lib.hid O; replace hB := Go.Lib.hid hB
      go_wp2
      go_ret2
      exact ⟨_, rfl, own_pk O.out, hB.out⟩
end Go.Proofs.YtfhfiaphdgfmnaaDoor
