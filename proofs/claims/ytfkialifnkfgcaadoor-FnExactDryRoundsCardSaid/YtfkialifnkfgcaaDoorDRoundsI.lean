import Derived.Deep.RegionHeld3
import Derived.Test.YtfkialifnkfgcaaDoorDSpec
import Derived.Test.YtfkialifnkfgcaaDoorCkRounds
import Derived.Test.YtfkialifnkfgcaaDoorIdry
import Derived.Test.YtfkialifnkfgcaaDoorDSumOf
namespace Go.Proofs.YtfkialifnkfgcaaDoor
open Go.RowKit
set_option maxRecDepth 100000
set_option linter.unusedVariables false
set_option linter.unusedSimpArgs false
/-- the sheet behind k rounds, and what round k takes -/
def tkS (s : Sh) (L : List Sp8) : Nat → Sh
  | 0 => s
  | k + 1 => (L.foldl (cellDry s (tkS s L k)) (tkS s L k, 0)).1
def tkR (s : Sh) (L : List Sp8) (k : Nat) : Int := (L.foldl (cellDry s (tkS s L k)) (tkS s L k, 0)).2
theorem tk_gd {s : Sh} (hok : okI s = true) (hi : InkOk s) (hf : s.fit) {L : List Sp8} (hnd : (L.map pix).Nodup) : ∀ k, Gd s (tkS s L k)
  | 0 => Gd.start hok hi hf
  | k + 1 => (tk_gd hok hi hf hnd k).dried (dry_all (tk_gd hok hi hf hnd k) hnd)
theorem tk_bd {s : Sh} (hok : okI s = true) (hi : InkOk s) (hf : s.fit) {L : List Sp8} (hl : L.length ≤ 64) (hnd : (L.map pix).Nodup) (k : Nat) : 0 ≤ tkR s L k ∧ tkR s L k ≤ 1000 := by
  obtain ⟨h1, h2⟩ := (dry_all (tk_gd hok hi hf hnd k) hnd).sum
  change (0 : Int) ≤ tkR s L k at h1
  change tkR s L k ≤ 5 * (L.length : Int) at h2
  omega
theorem rounds_tk (s : Sh) (L : List Sp8) : ∀ n k, roundsS s L n (tkS s L k, sumR (tkR s L) k) = (tkS s L (k + n), sumR (tkR s L) (k + n))
  | 0, k => rfl
  | n + 1, k => by
    have h := rounds_tk s L n (k + 1)
    rw [show k + (n + 1) = k + 1 + n by omega, ← h]
    rfl
theorem rounds_all (s : Sh) (L : List Sp8) (n : Nat) : roundsS s L n (s, 0) = (tkS s L n, sumR (tkR s L) n) := by
  have h := rounds_tk s L n 0
  rw [Nat.zero_add] at h
  exact h
theorem tk_stay {s : Sh} {L : List Sp8} (hg : ∀ k, Gd s (tkS s L k)) {k : Nat} (h : tkR s L k = 0) : ∀ n, tkS s L (k + n) = tkS s L k ∧ sumR (tkR s L) (k + n) = sumR (tkR s L) k ∧ tkR s L (k + n) = 0
  | 0 => ⟨rfl, rfl, h⟩
  | n + 1 => by
    obtain ⟨h1, h2, h3⟩ := tk_stay hg h n
    have e : tkS s L (k + (n + 1)) = tkS s L k := by
      have := dry_zero (hg (k + n)) (l := L) h3
      rw [← h1]; exact this
    refine ⟨e, ?_, ?_⟩
    · show sumR (tkR s L) (k + n) + tkR s L (k + n) = _
      rw [h2, h3]; omega
    · unfold tkR; rw [e]; exact h
theorem rr_end {s : Sh} {L : List Sp8} (hg : ∀ k, Gd s (tkS s L k)) {K k : Nat} (h : tkR s L k = 0) (hk : k < K) : tkS s L (k + 1) = tkS s L K ∧ sumR (tkR s L) k = sumR (tkR s L) K := by
  obtain ⟨a1, _, _⟩ := tk_stay hg h 1
  obtain ⟨b1, b2, _⟩ := tk_stay hg h (K - k)
  rw [show k + (K - k) = K by omega] at b1 b2
  exact ⟨a1.trans b1.symm, b2.symm⟩
theorem dryL_fold {s T : Sh} (h : Gd s T) (l : List Sp8) (hl : ∀ p ∈ l, hasB s p.1.1 p.1.2 = true) : (dryL s l).foldl (cellDry s T) (T, 0) = l.foldl (cellDry s T) (T, 0) := dry_filter h l hl (T, 0)
theorem dryL_pix {s : Sh} {l : List Sp8} (h : (l.map pix).Nodup) : ((dryL s l).map pix).Nodup := (List.filter_sublist.map pix).nodup h
theorem own_row_ge {W : World} {base g cap size n : Nat} {t : TypeId} {xs : List Value} (h : W.ownsRow base t size (.slice (some ⟨g, 0, none⟩) n cap) n xs) : base ≤ g := by
  rcases h.2 with ⟨hv, _⟩ | ⟨g', cap', cur, hv, hb, _⟩
  · cases hv
  · simp only [Value.slice.injEq, Option.some.injEq, Addr.mk.injEq] at hv
    obtain ⟨⟨rfl, _⟩, _, rfl⟩ := hv
    exact hb
theorem GRow.keep {W W' : World} {gp gl : Nat} {s : Sh} {l : List Sp8} {f f2 : Nat → Value} (h : GRow W gp gl s l f f2) {row : Option Nat} (g : W.grownBy W' row) (h1 : ∀ r, row = some r → gp ≠ r) (h2 : ∀ r, row = some r → gl ≠ r) : GRow W' gp gl s l f f2 :=
  ⟨keep_at g h.pl h1, keep_at g h.li h2, h.hl, h.at_, h.nb⟩
set_option maxHeartbeats 2000000 in
theorem round_any (s T : Sh) (a c mt gb gp gl : Nat) (f f2 : Nat → Value) (w : World) (hok : okI s = true) (hG : GRow w gp gl s (dryL s (cellsL a c)) f f2) (ht : w.heap[mt]? = some (.cells (vrow 266 T.at) 32)) (hb : w.heap[gb]? = some (.cells (vrow 1 fun _ => (.slice (some ⟨gp, 0, none⟩) (dryL s (cellsL a c)).length 64)) 102)) (hgd : Gd s T) (hmem : ∀ p ∈ cellsL a c, hasB s p.1.1 p.1.2 = true) (hnd : ((cellsL a c).map pix).Nodup) :
    Calls Tryd.prog 70 #[.pointer (some ⟨mt, 0, none⟩), .pointer (some ⟨gb, 0, none⟩)] w fun e w' => e = .returned (.int .i64 ((cellsL a c).foldl (cellDry s T) (T, 0)).2) ∧ w.grownBy w' (some mt) ∧ w'.heap[mt]? = some (.cells (vrow 266 ((cellsL a c).foldl (cellDry s T) (T, 0)).1.at) 32) := by
  have HI0 := fun w hG ht => idry_any s T (dryL s (cellsL a c)) mt gp gl f f2 w hok hG ht hgd (dryL_pix hnd)
  rw [dryL_fold hgd (cellsL a c) hmem] at HI0
  have HI := Go.Lib.hid HI0
  have GB := Go.Lib.hid hb; have HT := Go.Lib.hid ht; have HG := Go.Lib.hid hG
  clear HI0 hgd hmem hnd hok hb ht hG
  generalize (cellsL a c).foldl (cellDry s T) (T, 0) = TN at *
  obtain ⟨T', n⟩ := TN
  go_enter Tryd.func70, Tryd.ntmps70
  go_wp2_with (first
    | go_skip
    | ((with_reducible refine wlAt 3 rfl ?_); refine wpList_load1 rfl 102 (.tmp 1) rfl gb 0 rfl 1 (fun _ => (.slice (some ⟨gp, 0, none⟩) (dryL s (cellsL a c)).length 64)) _ _ Tryd.underlying102 rfl GB.out (by omega) ?_; simp only [Act.put, List.setIfInBounds_toArray, List.set_cons_succ, List.set_cons_zero])
    | (go_at_call 71; (refine (HI.out _ HG.out HT.out).mono ?_); rintro o w1 ⟨rfl, hg, hp⟩))
  go_ret
  exact ⟨rfl, hg, hp⟩
set_option maxHeartbeats 2000000 in
theorem implRR_err (s : Sh) (k : Int) (v : Int) (n : Nat) (e : ErrE) (w : World) (hE : Errs e w) (HC0 : ∀ w, Errs e w → Calls Tryd.prog 67 #[.agg s.row, .int .i64 k] w fun o w' => o = .returned (errP e n) ∧ Below w.heap.size w w')
    (HD0 : ∀ w, Errs e w → Calls Tryd.prog 59 #[errP e n] w fun o w' => o = .returned (.int .i64 v) ∧ Below w.heap.size w w') :
    Calls Tryd.prog 22 #[.agg s.row, .int .i64 k] w fun o w' => o = .returned (.tuple #[.agg Sh.zero.row, .int .i64 0, .int .i64 v]) ∧ Below w.heap.size w w' := by
  have HC := Go.Lib.hid HC0
  have HD := Go.Lib.hid HD0
  have zz := zero_sheet
  clear HC0 HD0
  have hB : Hid (Below w.heap.size w ((w.alloc (.cells (vrow 266 s.at) 32)).alloc (.cells (vrow 266 Sh.zero.at) 32))) := (((Below.refl w.heap.size w).alloc (by simp <;> omega) _).alloc (by simp <;> omega) _)
  have P : Hid (((w.alloc (.cells (vrow 266 s.at) 32)).alloc (.cells (vrow 266 Sh.zero.at) 32)).heap[(w.heap.size)]? = some (.cells (vrow 266 s.at) 32)) := heap_past _ _ _ _ (by first | omega | (simp <;> omega)) (heap_at _ _ _ (by simp))
  have Z : Hid (((w.alloc (.cells (vrow 266 s.at) 32)).alloc (.cells (vrow 266 Sh.zero.at) 32)).heap[(w.heap.size + 1)]? = some (.cells (vrow 266 Sh.zero.at) 32)) := heap_at _ _ _ (by simp)
  go_enter Tryd.func22, Tryd.ntmps22
  go_wp2_with (first
    | go_skip
    | ((with_reducible refine wlAt 10 rfl ?_); refine wpList_loadall rfl 32 (.tmp 2) rfl _ rfl 266 s.at 32 _ Tryd.underlying32 rfl size_sheet P.out ?_)
    | (go_at_call 67; (refine (HC.out _ (hE.next hB.out)).mono ?_); rintro o w1 ⟨rfl, hb⟩; replace P := Go.Lib.hid (row_next hb P.out); replace Z := Go.Lib.hid (row_next hb Z.out); replace hB := Go.Lib.hid (below_next hB.out hb); clear hb)
    | (go_at_call 59; (refine (HD.out _ (hE.next hB.out)).mono ?_); rintro o w1 ⟨rfl, hb⟩; replace P := Go.Lib.hid (row_next hb P.out); replace Z := Go.Lib.hid (row_next hb Z.out); replace hB := Go.Lib.hid (below_next hB.out hb); clear hb)
    | ((with_reducible refine wlAt 15 rfl ?_); refine wpList_built rfl 32 [] rfl [] (by rfl) _ built_zero ?_)
    | ((with_reducible refine wlOp (.store 32 (.tmp 4) (.tmp 15)) rfl ?_); refine wpList_storeall rfl 32 (.tmp 4) (.tmp 15) rfl (w.heap.size + 1) rfl 266 Sh.zero.at Sh.zero.at rfl 32 size_sheet Z.out (fun i _ => Sh.one _ i) ?_; replace Z := Go.Lib.hid (row_set Z.out (vrow 266 Sh.zero.at)); replace hB := Go.Lib.hid (Below_setRow hB.out (show w.heap.size ≤ w.heap.size + 1 by omega) (vrow 266 Sh.zero.at))))
  exact ret_row3 Tryd.results22 (w.heap.size + 1) 266 Sh.zero.at 32 _ Tryd.underlying32 rfl size_sheet (.int .i64 0) (.int .i64 _) rfl rfl rfl rfl Z.out ⟨rfl, hB.out⟩
set_option maxHeartbeats 8000000 in
theorem implRR_ok (s : Sh) (K a c : Nat) (e : ErrE) (w : World) (hE : Errs e w) (ea : s.wide = a) (ec : s.high = c) (ha : 1 ≤ a ∧ a ≤ 8) (hc : 1 ≤ c ∧ c ≤ 8) (hf : s.fit) (ho : okI s = true) (hi : InkOk s) (hk : K ≤ 500) :
    Calls Tryd.prog 22 #[.agg s.row, .int .i64 K] w fun o w' => o = .returned (.tuple #[.agg (roundsS s (cellsL a c) K (s, 0)).1.row, .int .i64 (roundsS s (cellsL a c) K (s, 0)).2, .int .i64 0]) ∧ Below w.heap.size w w' := by
  have HC := Go.Lib.hid fun w hE => ckRounds_ok s K e w hE ho ⟨by omega, by omega⟩
  have HGR := Go.Lib.hid fun w => ground_any s a c w ea ec ha.2 hc.2 ho
  have hmem : ∀ p ∈ cellsL a c, hasB s p.1.1 p.1.2 = true := fun p hp => by
    have h2 : p.1 ∈ pairsL a c := by rw [← cellsL_val a c (by omega) c (by omega)]; exact List.mem_map_of_mem hp
    obtain ⟨h3, h4⟩ := pairsL_mem h2
    unfold hasB
    simp; omega
  have hnd := cellsL_pix a c ha.2 hc.2
  have hl : (cellsL a c).length ≤ 64 := by rw [cellsL_length a c]; exact Nat.mul_le_mul ha.2 hc.2
  have HGD := Go.Lib.hid fun k => tk_gd ho hi hf hnd k
  have HBD := Go.Lib.hid fun k => tk_bd ho hi hf hl hnd k
  have HRN := Go.Lib.hid fun T mt gb gp gl f f2 w hG ht hb hgd => round_any s T a c mt gb gp gl f f2 w ho hG ht hb hgd hmem hnd
  rw [rounds_all]
  clear ea ec ha hc hf ho hi hmem hnd hl
  have zz := zero_sheet
  have zp := zero_pls
  have hB : Hid (Below w.heap.size w ((w.alloc (.cells (vrow 266 s.at) 32)).alloc (.cells (vrow 266 Sh.zero.at) 32))) := (((Below.refl w.heap.size w).alloc (by simp <;> omega) _).alloc (by simp <;> omega) _)
  have P : Hid (((w.alloc (.cells (vrow 266 s.at) 32)).alloc (.cells (vrow 266 Sh.zero.at) 32)).heap[(w.heap.size)]? = some (.cells (vrow 266 s.at) 32)) := heap_past _ _ _ _ (by first | omega | (simp <;> omega)) (heap_at _ _ _ (by simp))
  have Z : Hid (((w.alloc (.cells (vrow 266 s.at) 32)).alloc (.cells (vrow 266 Sh.zero.at) 32)).heap[(w.heap.size + 1)]? = some (.cells (vrow 266 Sh.zero.at) 32)) := heap_at _ _ _ (by simp)
  go_enter Tryd.func22, Tryd.ntmps22
  go_wp2_with (first
    | go_skip
    | ((with_reducible refine wlAt 10 rfl ?_); refine wpList_loadall rfl 32 (.tmp 2) rfl _ rfl 266 s.at 32 _ Tryd.underlying32 rfl size_sheet P.out ?_)
    | (go_at_call 67; (refine (HC.out _ (hE.next hB.out)).mono ?_); rintro o w1 ⟨rfl, hb⟩; replace P := Go.Lib.hid (row_next hb P.out); replace Z := Go.Lib.hid (row_next hb Z.out); replace hB := Go.Lib.hid (below_next hB.out hb); clear hb)
    | ((with_reducible refine wlAt 18 rfl ?_); refine wpList_loadall rfl 32 (.tmp 2) rfl _ rfl 266 s.at 32 _ Tryd.underlying32 rfl size_sheet P.out ?_)
    | (go_at_call 68; (refine (HGR.out _).mono ?_); rintro o w2 ⟨gp, gl, rfl, hGM, hb⟩; have nP := row_lt P.out; have nZ := row_lt Z.out; have g1 := own_row_ge hGM.places; have g2 := own_row_ge hGM.list; replace P := Go.Lib.hid (row_next hb P.out); replace Z := Go.Lib.hid (row_next hb Z.out); replace hB := Go.Lib.hid (below_next hB.out hb); have hbz := hb.size; clear hb; obtain ⟨f, f2, hGRr⟩ := hGM.rows; have GR := Go.Lib.hid hGRr; clear hGM hGRr)
    | ((with_reducible refine wlOp (.store 102 (.tmp 8) (.tmp 19)) rfl ?_); refine wpList_store1 rfl 102 (.tmp 8) (.tmp 19) rfl _ 0 rfl 1 (fun _ => .slice none 0 0) (.slice (some ⟨gp, 0, none⟩) (dryL s (cellsL a c)).length 64) rfl 102 size_pls (heap_at _ _ _ rfl) (by omega) rfl ?_; rw [vrow_over_all, setRow_at _ _ _ _ _ rfl]; have GB := Go.Lib.hid (heap_at w2 (.cells (vrow 1 fun _ => (.slice (some ⟨gp, 0, none⟩) (dryL s (cellsL a c)).length 64)) 102) _ rfl); have mP := row_lt P.out; have mZ := row_lt Z.out; have mG := row_lt GR.out.pl; have mL := row_lt GR.out.li; have hbs := hB.out.size; have hga := World.grownBy_alloc w2 (.cells (vrow 1 fun _ => (.slice (some ⟨gp, 0, none⟩) (dryL s (cellsL a c)).length 64)) 102) none; replace P := Go.Lib.hid (heap_past _ (.cells (vrow 1 fun _ => (.slice (some ⟨gp, 0, none⟩) (dryL s (cellsL a c)).length 64)) 102) _ _ mP P.out); replace Z := Go.Lib.hid (heap_past _ (.cells (vrow 1 fun _ => (.slice (some ⟨gp, 0, none⟩) (dryL s (cellsL a c)).length 64)) 102) _ _ mZ Z.out); replace GR := Go.Lib.hid (GR.out.keep hga (fun r e => by cases e) (fun r e => by cases e)); replace hB := Go.Lib.hid (hB.out.alloc hbs (.cells (vrow 1 fun _ => (.slice (some ⟨gp, 0, none⟩) (dryL s (cellsL a c)).length 64)) 102)); clear hga; have hsz3 : Hid ((w2.alloc (.cells (vrow 1 fun _ => (.slice (some ⟨gp, 0, none⟩) (dryL s (cellsL a c)).length 64)) 102)).heap.size = w2.heap.size + 1) := World.heap_size_alloc_hid _ _; generalize w2.heap.size = gb at GB mP mZ mG mL hbs hsz3 ⊢; generalize w2.alloc _ = w3 at P Z GB GR hB hsz3 ⊢)
    | (go_at_call 69; have hz := hsz3.out; have hsum := sumOf_any K w.heap.size #[.pointer (some ⟨w.heap.size, 0, none⟩), .pointer (some ⟨gb, 0, none⟩)] (tkR s (cellsL a c)) (fun k W => W.heap[w.heap.size]? = some (.cells (vrow 266 (tkS s (cellsL a c) k).at) 32) ∧ W.heap[gb]? = some (.cells (vrow 1 fun _ => (.slice (some ⟨gp, 0, none⟩) (dryL s (cellsL a c)).length 64)) 102) ∧ GRow W gp gl s (dryL s (cellsL a c)) f f2) w3 (row_lt P.out) (by omega) HBD.out (fun k W W' row h g hr => ⟨keep_at g h.1 (fun r e => by have := hr r e; omega), keep_at g h.2.1 (fun r e => by have := hr r e; omega), h.2.2.keep g (fun r e => by have := hr r e; omega) (fun r e => by have := hr r e; omega)⟩) (fun k W h hlt => (HRN.out (tkS s (cellsL a c) k) w.heap.size gb gp gl f f2 W h.2.2 h.1 h.2.1 (HGD.out k)).mono fun e W' ⟨he, hg, hp⟩ => ⟨he, ⟨hp, keep_at hg h.2.1 (fun r e => by cases e; omega), h.2.2.keep hg (fun r e => by cases e; omega) (fun r e => by cases e; omega)⟩, hg⟩) ⟨P.out, GB.out, GR.out⟩; refine hsum.mono ?_; rintro o w4 ⟨kk, hkk, rfl, hg, hfin⟩; have hend : w4.heap[w.heap.size]? = some (.cells (vrow 266 (tkS s (cellsL a c) K).at) 32) ∧ sumR (tkR s (cellsL a c)) kk = sumR (tkR s (cellsL a c)) K := (hfin.elim (fun ⟨h1, h2⟩ => by subst h1; exact ⟨h2.1, rfl⟩) (fun ⟨h1, h2, h3⟩ => by obtain ⟨e1, e2⟩ := rr_end HGD.out h2 h1; rw [← e1]; exact ⟨h3.1, e2⟩)); obtain ⟨hp4, hs4⟩ := hend; rw [hs4]; replace Z := Go.Lib.hid ((hg.block _ (row_lt Z.out) (by simp <;> omega)).trans Z.out); replace hB := Go.Lib.hid (hB.out.grown hg hB.out.size (fun q hq => by cases hq; omega)); replace P := Go.Lib.hid hp4; clear hg hfin hp4 hs4 hsum GB GR)
    | ((with_reducible refine wlAt 23 rfl ?_); refine wpList_loadall rfl 32 (.tmp 2) rfl _ rfl 266 (tkS s (cellsL a c) K).at 32 _ Tryd.underlying32 rfl size_sheet P.out ?_)
    | ((with_reducible refine wlOp (.store 32 (.tmp 4) (.tmp 23)) rfl ?_); refine wpList_storeall rfl 32 (.tmp 4) (.tmp 23) rfl (w.heap.size + 1) rfl 266 Sh.zero.at (tkS s (cellsL a c) K).at rfl 32 size_sheet Z.out (fun i _ => Sh.one _ i) ?_; replace Z := Go.Lib.hid (row_set Z.out (vrow 266 (tkS s (cellsL a c) K).at)); replace hB := Go.Lib.hid (Below_setRow hB.out (show w.heap.size ≤ w.heap.size + 1 by omega) (vrow 266 (tkS s (cellsL a c) K).at))))
  exact ret_row3 Tryd.results22 (w.heap.size + 1) 266 (tkS s (cellsL a c) K).at 32 _ Tryd.underlying32 rfl size_sheet (.int .i64 (sumR (tkR s (cellsL a c)) K)) (.int .i64 0) rfl rfl rfl rfl Z.out ⟨rfl, hB.out⟩
end Go.Proofs.YtfkialifnkfgcaaDoor
