import Derived.Deep.RegionHeld3
import Derived.Test.YtgbhchmpeioaiaaDoorSpecRun
import Derived.Test.YtgbhchmpeioaiaaDoorCkRounds
import Derived.Test.YtgbhchmpeioaiaaDoorIrun
import Derived.Test.YtgbhchmpeioaiaaDoorSumOf
namespace Go.Proofs.YtgbhchmpeioaiaaDoor
open Go.RowKit
set_option maxRecDepth 100000
set_option linter.unusedVariables false
set_option linter.unusedSimpArgs false
/-- the sheet behind k rounds, and what round k gives -/
def tkS (s : Sh) (L : List Sp8) : Nat → Sh
  | 0 => s
  | k + 1 => (L.foldl (cellRun s) (tkS s L k, 0)).1
def tkR (s : Sh) (L : List Sp8) (k : Nat) : Int := (L.foldl (cellRun s) (tkS s L k, 0)).2
theorem tk_gd {s : Sh} (hok : okI s = true) (hi : InkOk s) (hf : s.fit) {L : List Sp8} (hmem : ∀ p ∈ L, hasB s p.1.1 p.1.2 = true) : ∀ k, Gd s (tkS s L k)
  | 0 => Gd.start hok hi hf
  | k + 1 => (runS_gd hok L hmem (tkS s L k, 0) (tk_gd hok hi hf hmem k)).1
theorem tk_bd {s : Sh} (hok : okI s = true) (hi : InkOk s) (hf : s.fit) {L : List Sp8} (hl : L.length ≤ 64) (hmem : ∀ p ∈ L, hasB s p.1.1 p.1.2 = true) (k : Nat) : 0 ≤ tkR s L k ∧ tkR s L k ≤ 1000 := by
  obtain ⟨_, h1, h2⟩ := runS_gd hok L hmem (tkS s L k, 0) (tk_gd hok hi hf hmem k)
  change (0 : Int) ≤ tkR s L k at h1
  change tkR s L k ≤ (0 : Int) + 4 * (L.length : Int) at h2
  omega
theorem rounds_tk (s : Sh) (L : List Sp8) : ∀ n k, roundsS s L n (tkS s L k, sumR (tkR s L) k) = (tkS s L (k + n), sumR (tkR s L) (k + n))
  | 0, k => rfl
  | n + 1, k => by
    have h := rounds_tk s L n (k + 1)
    rw [show k + (n + 1) = k + 1 + n by omega, ← h]
    rfl
theorem rounds_all (s : Sh) (L : List Sp8) (n : Nat) : roundsS s L n (s, 0) = (tkS s L n, sumR (tkR s L) n) := by
  have h := rounds_tk s L n 0
  rw [Nat.zero_add] at h
  exact h
theorem tk_stay {s : Sh} {L : List Sp8} {k : Nat} (h : tkR s L k = 0) : ∀ n, tkS s L (k + n) = tkS s L k ∧ sumR (tkR s L) (k + n) = sumR (tkR s L) k ∧ tkR s L (k + n) = 0
  | 0 => ⟨rfl, rfl, h⟩
  | n + 1 => by
    obtain ⟨h1, h2, h3⟩ := tk_stay h n
    have e : tkS s L (k + (n + 1)) = tkS s L k := by
      have := run_zero (s := s) (T := tkS s L (k + n)) (l := L) h3
      rw [← h1]; exact this
    refine ⟨e, ?_, ?_⟩
    · show sumR (tkR s L) (k + n) + tkR s L (k + n) = _
      rw [h2, h3]; omega
    · unfold tkR; rw [e]; exact h
theorem rr_end {s : Sh} {L : List Sp8} {K k : Nat} (h : tkR s L k = 0) (hk : k < K) : tkS s L (k + 1) = tkS s L K ∧ sumR (tkR s L) k = sumR (tkR s L) K := by
  obtain ⟨a1, _, _⟩ := tk_stay h 1
  obtain ⟨b1, b2, _⟩ := tk_stay h (K - k)
  rw [show k + (K - k) = K by omega] at b1 b2
  exact ⟨a1.trans b1.symm, b2.symm⟩
theorem GRow.keep {W W' : World} {gp gl : Nat} {s : Sh} {l : List Sp8} {f f2 : Nat → Value} (h : GRow W gp gl s l f f2) {row : Option Nat} (g : W.grownBy W' row) (h1 : ∀ r, row = some r → gp ≠ r) (h2 : ∀ r, row = some r → gl ≠ r) : GRow W' gp gl s l f f2 :=
  ⟨keep_at g h.pl h1, keep_at g h.li h2, h.hl, h.at_, h.nb⟩
set_option maxHeartbeats 2000000 in
theorem round_any (s T : Sh) (a c mt gb gp gl : Nat) (f f2 : Nat → Value) (w : World) (hok : okI s = true) (hG : GRow w gp gl s (dryL s (cellsL a c)) f f2) (ht : w.heap[mt]? = some (.cells (vrow 266 T.at) 35)) (hb : w.heap[gb]? = some (.cells (vrow 1 fun _ => (.slice (some ⟨gp, 0, none⟩) (dryL s (cellsL a c)).length 64)) 104)) (hgd : Gd s T) (hfree : ∀ p ∈ dryL s (cellsL a c), hasB s p.1.1 p.1.2 = true ∧ waxB s p.1.1 p.1.2 = false) :
    Calls Tryd.prog 79 #[.pointer (some ⟨mt, 0, none⟩), .pointer (some ⟨gb, 0, none⟩)] w fun e w' => e = .returned (.int .i64 ((cellsL a c).foldl (cellRun s) (T, 0)).2) ∧ w.grownBy w' (some mt) ∧ w'.heap[mt]? = some (.cells (vrow 266 ((cellsL a c).foldl (cellRun s) (T, 0)).1.at) 35) := by
  have HI0 := fun w hG ht => irun_any s T (dryL s (cellsL a c)) mt gp gl f f2 w hok hG ht hgd hfree
  rw [run_filter s (cellsL a c) (T, 0)] at HI0
  have HI := Go.Lib.hid HI0
  have GB := Go.Lib.hid hb; have HT := Go.Lib.hid ht; have HG := Go.Lib.hid hG
  clear HI0 hgd hfree hok hb ht hG
  generalize (cellsL a c).foldl (cellRun s) (T, 0) = TN at *
  obtain ⟨T', n⟩ := TN
  go_enter Tryd.func79, Tryd.ntmps79
  go_wp2_with (first
    | go_skip
    | ((with_reducible refine wlAt 3 rfl ?_); refine wpList_load1 rfl 104 (.tmp 1) rfl gb 0 rfl 1 (fun _ => (.slice (some ⟨gp, 0, none⟩) (dryL s (cellsL a c)).length 64)) _ _ Tryd.underlying104 rfl GB.out (by omega) ?_; simp only [Act.put, List.setIfInBounds_toArray, List.set_cons_succ, List.set_cons_zero])
    | (go_at_call 80; (refine (HI.out _ HG.out HT.out).mono ?_); rintro o w1 ⟨rfl, hg, hp⟩))
  go_ret
  exact ⟨rfl, hg, hp⟩
set_option maxHeartbeats 2000000 in
theorem implRR_err (s : Sh) (k : Int) (v : Int) (n : Nat) (e : ErrE) (w : World) (hE : Errs e w) (HC0 : ∀ w, Errs e w → Calls Tryd.prog 76 #[.agg s.row, .int .i64 k] w fun o w' => o = .returned (errP e n) ∧ Below w.heap.size w w')
    (HD0 : ∀ w, Errs e w → Calls Tryd.prog 53 #[errP e n] w fun o w' => o = .returned (.int .i64 v) ∧ Below w.heap.size w w') :
    Calls Tryd.prog 39 #[.agg s.row, .int .i64 k] w fun o w' => o = .returned (.tuple #[.agg Sh.zero.row, .int .i64 0, .int .i64 v]) ∧ Below w.heap.size w w' := by
  have HC := Go.Lib.hid HC0
  have HD := Go.Lib.hid HD0
  have zz := zero_sheet
  clear HC0 HD0
  have hB : Hid (Below w.heap.size w ((w.alloc (.cells (vrow 266 s.at) 35)).alloc (.cells (vrow 266 Sh.zero.at) 35))) := (((Below.refl w.heap.size w).alloc (by simp <;> omega) _).alloc (by simp <;> omega) _)
  have P : Hid (((w.alloc (.cells (vrow 266 s.at) 35)).alloc (.cells (vrow 266 Sh.zero.at) 35)).heap[(w.heap.size)]? = some (.cells (vrow 266 s.at) 35)) := heap_past _ _ _ _ (by first | omega | (simp <;> omega)) (heap_at _ _ _ (by simp))
  have Z : Hid (((w.alloc (.cells (vrow 266 s.at) 35)).alloc (.cells (vrow 266 Sh.zero.at) 35)).heap[(w.heap.size + 1)]? = some (.cells (vrow 266 Sh.zero.at) 35)) := heap_at _ _ _ (by simp)
  go_enter Tryd.func39, Tryd.ntmps39
  go_wp2_with (first
    | go_skip
    | ((with_reducible refine wlAt 10 rfl ?_); refine wpList_loadall rfl 35 (.tmp 2) rfl _ rfl 266 s.at 35 _ Tryd.underlying35 rfl size_sheet P.out ?_)
    | (go_at_call 76; (refine (HC.out _ (hE.next hB.out)).mono ?_); rintro o w1 ⟨rfl, hb⟩; replace P := Go.Lib.hid (row_next hb P.out); replace Z := Go.Lib.hid (row_next hb Z.out); replace hB := Go.Lib.hid (below_next hB.out hb); clear hb)
    | (go_at_call 53; (refine (HD.out _ (hE.next hB.out)).mono ?_); rintro o w1 ⟨rfl, hb⟩; replace P := Go.Lib.hid (row_next hb P.out); replace Z := Go.Lib.hid (row_next hb Z.out); replace hB := Go.Lib.hid (below_next hB.out hb); clear hb)
    | ((with_reducible refine wlAt 15 rfl ?_); refine wpList_built rfl 35 [] rfl [] (by rfl) _ built_zero ?_)
    | ((with_reducible refine wlOp (.store 35 (.tmp 4) (.tmp 15)) rfl ?_); refine wpList_storeall rfl 35 (.tmp 4) (.tmp 15) rfl (w.heap.size + 1) rfl 266 Sh.zero.at Sh.zero.at rfl 35 size_sheet Z.out (fun i _ => Sh.one _ i) ?_; replace Z := Go.Lib.hid (row_set Z.out (vrow 266 Sh.zero.at)); replace hB := Go.Lib.hid (Below_setRow hB.out (show w.heap.size ≤ w.heap.size + 1 by omega) (vrow 266 Sh.zero.at))))
  exact ret_row3 Tryd.results39 (w.heap.size + 1) 266 Sh.zero.at 35 _ Tryd.underlying35 rfl size_sheet (.int .i64 0) (.int .i64 _) rfl rfl rfl rfl Z.out ⟨rfl, hB.out⟩
set_option maxHeartbeats 8000000 in
theorem implRR_ok (s : Sh) (K a c : Nat) (e : ErrE) (w : World) (hE : Errs e w) (ea : s.wide = a) (ec : s.high = c) (ha : 1 ≤ a ∧ a ≤ 8) (hc : 1 ≤ c ∧ c ≤ 8) (hf : s.fit) (ho : okI s = true) (hi : InkOk s) (hk : K ≤ 500) :
    Calls Tryd.prog 39 #[.agg s.row, .int .i64 K] w fun o w' => o = .returned (.tuple #[.agg (roundsS s (cellsL a c) K (s, 0)).1.row, .int .i64 (roundsS s (cellsL a c) K (s, 0)).2, .int .i64 0]) ∧ Below w.heap.size w w' := by
  have HC := Go.Lib.hid fun w hE => ckRounds_ok s K e w hE ho ⟨by omega, by omega⟩
  have HGR := Go.Lib.hid fun w => ground_any s a c w ea ec ha.2 hc.2 ho
  have hmem : ∀ p ∈ cellsL a c, hasB s p.1.1 p.1.2 = true := fun p hp => by
    have h2 : p.1 ∈ pairsL a c := by rw [← cellsL_val a c (by omega) c (by omega)]; exact List.mem_map_of_mem hp
    obtain ⟨h3, h4⟩ := pairsL_mem h2
    unfold hasB
    simp; omega
  have hfree : ∀ p ∈ dryL s (cellsL a c), hasB s p.1.1 p.1.2 = true ∧ waxB s p.1.1 p.1.2 = false := fun p hp => by
    obtain ⟨hp1, hp2⟩ := List.mem_filter.1 hp
    exact ⟨hmem p hp1, by simpa using hp2⟩
  have hl : (cellsL a c).length ≤ 64 := by rw [cellsL_length a c]; exact Nat.mul_le_mul ha.2 hc.2
  have HGD := Go.Lib.hid fun k => tk_gd ho hi hf hmem k
  have HBD := Go.Lib.hid fun k => tk_bd ho hi hf hl hmem k
  have HRN := Go.Lib.hid fun T mt gb gp gl f f2 w hG ht hb hgd => round_any s T a c mt gb gp gl f f2 w ho hG ht hb hgd hfree
  rw [rounds_all]
  clear ea ec ha hc hf ho hi hmem hfree hl
  have zz := zero_sheet
  have zp := zero_pls
  have hB : Hid (Below w.heap.size w ((w.alloc (.cells (vrow 266 s.at) 35)).alloc (.cells (vrow 266 Sh.zero.at) 35))) := (((Below.refl w.heap.size w).alloc (by simp <;> omega) _).alloc (by simp <;> omega) _)
  have P : Hid (((w.alloc (.cells (vrow 266 s.at) 35)).alloc (.cells (vrow 266 Sh.zero.at) 35)).heap[(w.heap.size)]? = some (.cells (vrow 266 s.at) 35)) := heap_past _ _ _ _ (by first | omega | (simp <;> omega)) (heap_at _ _ _ (by simp))
  have Z : Hid (((w.alloc (.cells (vrow 266 s.at) 35)).alloc (.cells (vrow 266 Sh.zero.at) 35)).heap[(w.heap.size + 1)]? = some (.cells (vrow 266 Sh.zero.at) 35)) := heap_at _ _ _ (by simp)
  go_enter Tryd.func39, Tryd.ntmps39
  go_wp2_with (first
    | go_skip
    | ((with_reducible refine wlAt 10 rfl ?_); refine wpList_loadall rfl 35 (.tmp 2) rfl _ rfl 266 s.at 35 _ Tryd.underlying35 rfl size_sheet P.out ?_)
    | (go_at_call 76; (refine (HC.out _ (hE.next hB.out)).mono ?_); rintro o w1 ⟨rfl, hb⟩; replace P := Go.Lib.hid (row_next hb P.out); replace Z := Go.Lib.hid (row_next hb Z.out); replace hB := Go.Lib.hid (below_next hB.out hb); clear hb)
    | ((with_reducible refine wlAt 18 rfl ?_); refine wpList_loadall rfl 35 (.tmp 2) rfl _ rfl 266 s.at 35 _ Tryd.underlying35 rfl size_sheet P.out ?_)
    | (go_at_call 77; (refine (HGR.out _).mono ?_); rintro o w2 ⟨gp, gl, rfl, hGM, hb⟩; have nP := row_lt P.out; have nZ := row_lt Z.out; have g1 := own_row_ge hGM.places; have g2 := own_row_ge hGM.list; replace P := Go.Lib.hid (row_next hb P.out); replace Z := Go.Lib.hid (row_next hb Z.out); replace hB := Go.Lib.hid (below_next hB.out hb); have hbz := hb.size; clear hb; obtain ⟨f, f2, hGRr⟩ := hGM.rows; have GR := Go.Lib.hid hGRr; clear hGM hGRr)
    | ((with_reducible refine wlOp (.store 104 (.tmp 8) (.tmp 19)) rfl ?_); refine wpList_store1 rfl 104 (.tmp 8) (.tmp 19) rfl _ 0 rfl 1 (fun _ => .slice none 0 0) (.slice (some ⟨gp, 0, none⟩) (dryL s (cellsL a c)).length 64) rfl 104 size_pls (heap_at _ _ _ rfl) (by omega) rfl ?_; rw [vrow_over_all, setRow_at _ _ _ _ _ rfl]; have GB := Go.Lib.hid (heap_at w2 (.cells (vrow 1 fun _ => (.slice (some ⟨gp, 0, none⟩) (dryL s (cellsL a c)).length 64)) 104) _ rfl); have mP := row_lt P.out; have mZ := row_lt Z.out; have mG := row_lt GR.out.pl; have mL := row_lt GR.out.li; have hbs := hB.out.size; have hga := World.grownBy_alloc w2 (.cells (vrow 1 fun _ => (.slice (some ⟨gp, 0, none⟩) (dryL s (cellsL a c)).length 64)) 104) none; replace P := Go.Lib.hid (heap_past _ (.cells (vrow 1 fun _ => (.slice (some ⟨gp, 0, none⟩) (dryL s (cellsL a c)).length 64)) 104) _ _ mP P.out); replace Z := Go.Lib.hid (heap_past _ (.cells (vrow 1 fun _ => (.slice (some ⟨gp, 0, none⟩) (dryL s (cellsL a c)).length 64)) 104) _ _ mZ Z.out); replace GR := Go.Lib.hid (GR.out.keep hga (fun r e => by cases e) (fun r e => by cases e)); replace hB := Go.Lib.hid (hB.out.alloc hbs (.cells (vrow 1 fun _ => (.slice (some ⟨gp, 0, none⟩) (dryL s (cellsL a c)).length 64)) 104)); clear hga; have hsz3 : Hid ((w2.alloc (.cells (vrow 1 fun _ => (.slice (some ⟨gp, 0, none⟩) (dryL s (cellsL a c)).length 64)) 104)).heap.size = w2.heap.size + 1) := World.heap_size_alloc_hid _ _; generalize w2.heap.size = gb at GB mP mZ mG mL hbs hsz3 ⊢; generalize w2.alloc _ = w3 at P Z GB GR hB hsz3 ⊢)
    | (go_at_call 78; have hz := hsz3.out; have hsum := sumOf_any K w.heap.size #[.pointer (some ⟨w.heap.size, 0, none⟩), .pointer (some ⟨gb, 0, none⟩)] (tkR s (cellsL a c)) (fun k W => W.heap[w.heap.size]? = some (.cells (vrow 266 (tkS s (cellsL a c) k).at) 35) ∧ W.heap[gb]? = some (.cells (vrow 1 fun _ => (.slice (some ⟨gp, 0, none⟩) (dryL s (cellsL a c)).length 64)) 104) ∧ GRow W gp gl s (dryL s (cellsL a c)) f f2) w3 (row_lt P.out) (by omega) HBD.out (fun k W W' row h g hr => ⟨keep_at g h.1 (fun r e => by have := hr r e; omega), keep_at g h.2.1 (fun r e => by have := hr r e; omega), h.2.2.keep g (fun r e => by have := hr r e; omega) (fun r e => by have := hr r e; omega)⟩) (fun k W h hlt => (HRN.out (tkS s (cellsL a c) k) w.heap.size gb gp gl f f2 W h.2.2 h.1 h.2.1 (HGD.out k)).mono fun e W' ⟨he, hg, hp⟩ => ⟨he, ⟨hp, keep_at hg h.2.1 (fun r e => by cases e; omega), h.2.2.keep hg (fun r e => by cases e; omega) (fun r e => by cases e; omega)⟩, hg⟩) ⟨P.out, GB.out, GR.out⟩; refine hsum.mono ?_; rintro o w4 ⟨kk, hkk, rfl, hg, hfin⟩; have hend : w4.heap[w.heap.size]? = some (.cells (vrow 266 (tkS s (cellsL a c) K).at) 35) ∧ sumR (tkR s (cellsL a c)) kk = sumR (tkR s (cellsL a c)) K := (hfin.elim (fun ⟨h1, h2⟩ => by subst h1; exact ⟨h2.1, rfl⟩) (fun ⟨h1, h2, h3⟩ => by obtain ⟨e1, e2⟩ := rr_end h2 h1; rw [← e1]; exact ⟨h3.1, e2⟩)); obtain ⟨hp4, hs4⟩ := hend; rw [hs4]; replace Z := Go.Lib.hid ((hg.block _ (row_lt Z.out) (by simp <;> omega)).trans Z.out); replace hB := Go.Lib.hid (hB.out.grown hg hB.out.size (fun q hq => by cases hq; omega)); replace P := Go.Lib.hid hp4; clear hg hfin hp4 hs4 hsum GB GR)
    | ((with_reducible refine wlAt 23 rfl ?_); refine wpList_loadall rfl 35 (.tmp 2) rfl _ rfl 266 (tkS s (cellsL a c) K).at 35 _ Tryd.underlying35 rfl size_sheet P.out ?_)
    | ((with_reducible refine wlOp (.store 35 (.tmp 4) (.tmp 23)) rfl ?_); refine wpList_storeall rfl 35 (.tmp 4) (.tmp 23) rfl (w.heap.size + 1) rfl 266 Sh.zero.at (tkS s (cellsL a c) K).at rfl 35 size_sheet Z.out (fun i _ => Sh.one _ i) ?_; replace Z := Go.Lib.hid (row_set Z.out (vrow 266 (tkS s (cellsL a c) K).at)); replace hB := Go.Lib.hid (Below_setRow hB.out (show w.heap.size ≤ w.heap.size + 1 by omega) (vrow 266 (tkS s (cellsL a c) K).at))))
  exact ret_row3 Tryd.results39 (w.heap.size + 1) 266 (tkS s (cellsL a c) K).at 35 _ Tryd.underlying35 rfl size_sheet (.int .i64 (sumR (tkR s (cellsL a c)) K)) (.int .i64 0) rfl rfl rfl rfl Z.out ⟨rfl, hB.out⟩
end Go.Proofs.YtgbhchmpeioaiaaDoor
