import Derived.Deep.RegionHeld3
import Derived.Test.YtgbhchmpeioaiaaDoorA3S
import Derived.Test.YtgbhchmpeioaiaaDoorG1
import Derived.Test.YtgbhchmpeioaiaaDoorEqSheet
namespace Go.Proofs.YtgbhchmpeioaiaaDoor
open Go.RowKit
set_option maxRecDepth 100000
set_option linter.unusedVariables false
set_option linter.unusedSimpArgs false
set_option maxHeartbeats 4000000 in
theorem bf_walk0 (s : Sh) (k r : Int) (c : Int) (O : Nat → Nat → Int) (e : ErrE) (w : World) (hE : Errs e w)
    (hS : ∀ w, Calls Tryd.prog 29 #[.agg (vrow 266 s.at), .int .i64 k, .int .i64 r] w fun o w' => ∃ v0, o = .returned (.tuple #[v0, .int .i64 c]) ∧ SlA w' w.heap.size v0 0 O ∧ Below w.heap.size w w')
    (hI : ∀ w, Errs e w → Calls Tryd.prog 30 #[.agg (vrow 266 s.at), .int .i64 k, .int .i64 r] w fun o w' => ∃ v0, o = .returned (.tuple #[v0, .int .i64 c]) ∧ SlA w' w.heap.size v0 0 O ∧ Below w.heap.size w w') :
    Calls Tryd.prog 8 #[.agg (vrow 266 s.at), .int .i64 k, .int .i64 r] w fun o w' => o = .returned (.bool true) ∧ Below w.heap.size w w' := by
  have HT0 := Go.Lib.hid (fun w => toSheet_any s w)
  have HS := Go.Lib.hid hS; have HI := Go.Lib.hid hI
  clear hS hI
  have hB : Hid (Below w.heap.size w (w.alloc (.cells (vrow 266 s.at) 31))) := ((Below.refl w.heap.size w).alloc (by simp <;> omega) _)
  have P0 : Hid ((w.alloc (.cells (vrow 266 s.at) 31)).heap[w.heap.size]? = some (.cells (vrow 266 s.at) 31)) := heap_at _ _ _ (by simp)
  go_enter Tryd.func8, Tryd.ntmps8
  go_wp2_with (first
    | go_skip
    | ((with_reducible refine wlAt 16 rfl ?_); refine wpList_loadall rfl 31 (.tmp 3) rfl _ rfl 266 s.at 31 _ Tryd.underlying31 rfl size_lsheet P0.out ?_) | ((with_reducible refine wlAt 24 rfl ?_); refine wpList_loadall rfl 31 (.tmp 3) rfl _ rfl 266 s.at 31 _ Tryd.underlying31 rfl size_lsheet P0.out ?_) | ((with_reducible refine wlAt 52 rfl ?_); refine wpList_loadall rfl 31 (.tmp 3) rfl _ rfl 266 s.at 31 _ Tryd.underlying31 rfl size_lsheet P0.out ?_)
    | (go_at_call 16; ((with_reducible refine (HT0.out _).mono ?_)); rintro o w1 ⟨rfl, hb⟩; replace P0 := Go.Lib.hid (row_next hb P0.out); (try (replace G0 := Go.Lib.hid (row_next hb G0.out))); (try (replace G1 := Go.Lib.hid (row_next hb G1.out))); (try (replace G2 := Go.Lib.hid (row_next hb G2.out))); replace hB := Go.Lib.hid (below_next hB.out hb); clear hb)
    | (go_at_call 29; refine (HS.out _).mono ?_; rintro o w5 ⟨v0, rfl, hs0, hb⟩; obtain ⟨ad0, cap0, rfl, _⟩ := hs0; replace P0 := Go.Lib.hid (row_next hb P0.out); (try (replace G0 := Go.Lib.hid (row_next hb G0.out))); (try (replace G1 := Go.Lib.hid (row_next hb G1.out))); (try (replace G2 := Go.Lib.hid (row_next hb G2.out))); replace hB := Go.Lib.hid (below_next hB.out hb); clear hb)
    | (go_at_call 30; refine (HI.out _ (hE.next hB.out)).mono ?_; rintro o w7 ⟨v1, rfl, hs1, hb⟩; obtain ⟨ad1, cap1, rfl, _⟩ := hs1; replace P0 := Go.Lib.hid (row_next hb P0.out); (try (replace G0 := Go.Lib.hid (row_next hb G0.out))); (try (replace G1 := Go.Lib.hid (row_next hb G1.out))); (try (replace G2 := Go.Lib.hid (row_next hb G2.out))); replace hB := Go.Lib.hid (below_next hB.out hb); clear hb)
    | (go_at_call 31; refine (eqA3S_0 _ _ _ _ _).mono ?_; rintro o w8 ⟨rfl, hb⟩; replace P0 := Go.Lib.hid (row_next hb P0.out); (try (replace G0 := Go.Lib.hid (row_next hb G0.out))); (try (replace G1 := Go.Lib.hid (row_next hb G1.out))); (try (replace G2 := Go.Lib.hid (row_next hb G2.out))); replace hB := Go.Lib.hid (below_next hB.out hb); clear hb)
    | (go_at_call 32; refine (markA_0 _ _ _).mono ?_; rintro o w8 ⟨rfl, hb⟩; replace P0 := Go.Lib.hid (row_next hb P0.out); (try (replace G0 := Go.Lib.hid (row_next hb G0.out))); (try (replace G1 := Go.Lib.hid (row_next hb G1.out))); (try (replace G2 := Go.Lib.hid (row_next hb G2.out))); replace hB := Go.Lib.hid (below_next hB.out hb); clear hb)
    | (go_at_call 33; refine (heldA_0 _ _ _).mono ?_; rintro o w8 ⟨rfl, hb⟩; replace P0 := Go.Lib.hid (row_next hb P0.out); (try (replace G0 := Go.Lib.hid (row_next hb G0.out))); (try (replace G1 := Go.Lib.hid (row_next hb G1.out))); (try (replace G2 := Go.Lib.hid (row_next hb G2.out))); replace hB := Go.Lib.hid (below_next hB.out hb); clear hb))
  go_ret
  exact ⟨rfl, hB.out⟩
set_option maxHeartbeats 8000000 in
theorem bf_walk (s : Sh) (k r : Int) (n : Nat) (c : Int) (O : Nat → Nat → Int) (e : ErrE) (w : World) (hE : Errs e w) (hn0 : 0 < n) (hn : n ≤ 100)
    (hS : ∀ w, Calls Tryd.prog 29 #[.agg (vrow 266 s.at), .int .i64 k, .int .i64 r] w fun o w' => ∃ v0, o = .returned (.tuple #[v0, .int .i64 c]) ∧ SlA w' w.heap.size v0 n O ∧ Below w.heap.size w w')
    (hI : ∀ w, Errs e w → Calls Tryd.prog 30 #[.agg (vrow 266 s.at), .int .i64 k, .int .i64 r] w fun o w' => ∃ v0, o = .returned (.tuple #[v0, .int .i64 c]) ∧ SlA w' w.heap.size v0 n O ∧ Below w.heap.size w w') :
    Calls Tryd.prog 8 #[.agg (vrow 266 s.at), .int .i64 k, .int .i64 r] w fun o w' => o = .returned (.bool true) ∧ Below w.heap.size w w' := by
  have HT0 := Go.Lib.hid (fun w => toSheet_any s w)
  have HS := Go.Lib.hid hS; have HI := Go.Lib.hid hI
  clear hS hI
  have MK : Hid (True) := Go.Lib.hid trivial
  have MQ : Hid (True) := Go.Lib.hid trivial
  have hB : Hid (Below w.heap.size w (w.alloc (.cells (vrow 266 s.at) 31))) := ((Below.refl w.heap.size w).alloc (by simp <;> omega) _)
  have P0 : Hid ((w.alloc (.cells (vrow 266 s.at) 31)).heap[w.heap.size]? = some (.cells (vrow 266 s.at) 31)) := heap_at _ _ _ (by simp)
  have hnI : (n : Int) ≤ 100 := by omega
  go_enter Tryd.func8, Tryd.ntmps8
  go_wp2_with (first
    | go_skip
    | ((with_reducible refine wlAt 16 rfl ?_); refine wpList_loadall rfl 31 (.tmp 3) rfl _ rfl 266 s.at 31 _ Tryd.underlying31 rfl size_lsheet P0.out ?_) | ((with_reducible refine wlAt 24 rfl ?_); refine wpList_loadall rfl 31 (.tmp 3) rfl _ rfl 266 s.at 31 _ Tryd.underlying31 rfl size_lsheet P0.out ?_) | ((with_reducible refine wlAt 52 rfl ?_); refine wpList_loadall rfl 31 (.tmp 3) rfl _ rfl 266 s.at 31 _ Tryd.underlying31 rfl size_lsheet P0.out ?_)
    | (go_at_call 16; ((with_reducible refine (HT0.out _).mono ?_)); rintro o w1 ⟨rfl, hb⟩; replace P0 := Go.Lib.hid (row_next hb P0.out); (try (replace G0 := Go.Lib.hid (row_next hb G0.out))); (try (replace G1 := Go.Lib.hid (row_next hb G1.out))); (try (replace G2 := Go.Lib.hid (row_next hb G2.out))); replace hB := Go.Lib.hid (below_next hB.out hb); clear hb)
    | (go_at_call 29; refine (HS.out _).mono ?_; rintro o w5 ⟨v0, rfl, hs0, hb⟩; obtain ⟨ad0, cap0, rfl, hx0⟩ := hs0; obtain ⟨g0, f0, rfl, hg0, hc0, hG0, hF0⟩ := hx0 hn0; clear hx0; have nP := row_lt P0.out; replace P0 := Go.Lib.hid (row_next hb P0.out); (try (replace G0 := Go.Lib.hid (row_next hb G0.out))); (try (replace G1 := Go.Lib.hid (row_next hb G1.out))); (try (replace G2 := Go.Lib.hid (row_next hb G2.out))); replace hB := Go.Lib.hid (below_next hB.out hb); clear hb; have G0 := Go.Lib.hid hG0; have F0 := Go.Lib.hid hF0; clear hG0 hF0)
    | (go_at_call 30; have hmk := MK.out; clear hmk MK; have nP1 := row_lt P0.out; have nG0 := row_lt G0.out; refine (HI.out _ (hE.next hB.out)).mono ?_; rintro o w7 ⟨v1, rfl, hs1, hb⟩; obtain ⟨ad1, cap1, rfl, hx1⟩ := hs1; obtain ⟨g1, f1, rfl, hg1, hc1, hG1, hF1⟩ := hx1 hn0; clear hx1; replace P0 := Go.Lib.hid (row_next hb P0.out); (try (replace G0 := Go.Lib.hid (row_next hb G0.out))); (try (replace G1 := Go.Lib.hid (row_next hb G1.out))); (try (replace G2 := Go.Lib.hid (row_next hb G2.out))); replace hB := Go.Lib.hid (below_next hB.out hb); clear hb; have G1 := Go.Lib.hid hG1; have F1 := Go.Lib.hid hF1; clear hG1 hF1; have q1 : w.heap.size < g1 := (by omega); have q2 : g0 < g1 := (by omega); clear nP1 nG0 hg1)
    | (go_at_call 30; have nG1 := row_lt G1.out; have nG0 := row_lt G0.out; refine (HI.out _ (hE.next hB.out)).mono ?_; rintro o w9 ⟨v2, rfl, hs2, hb⟩; obtain ⟨ad2, cap2, rfl, hx2⟩ := hs2; obtain ⟨g2, f2, rfl, hg2, hc2, hG2, hF2⟩ := hx2 hn0; clear hx2; replace P0 := Go.Lib.hid (row_next hb P0.out); (try (replace G0 := Go.Lib.hid (row_next hb G0.out))); (try (replace G1 := Go.Lib.hid (row_next hb G1.out))); (try (replace G2 := Go.Lib.hid (row_next hb G2.out))); replace hB := Go.Lib.hid (below_next hB.out hb); clear hb; have G2 := Go.Lib.hid hG2; have F2 := Go.Lib.hid hF2; clear hG2 hF2 nG0 nG1)
    | (go_at_call 31; have hmq := MQ.out; clear hmq MQ; refine (eqA3S_any g1 g0 n cap1 cap0 f1 f0 O _ hn hc1 hc0 F1.out F0.out G1.out G0.out).mono ?_; rintro o w8 ⟨rfl, hb⟩; replace P0 := Go.Lib.hid (row_next hb P0.out); (try (replace G0 := Go.Lib.hid (row_next hb G0.out))); (try (replace G1 := Go.Lib.hid (row_next hb G1.out))); (try (replace G2 := Go.Lib.hid (row_next hb G2.out))); replace hB := Go.Lib.hid (below_next hB.out hb); clear hb)
    | (go_at_call 31; refine (eqA3S_any g2 g0 n cap2 cap0 f2 f0 O _ hn hc2 hc0 F2.out F0.out G2.out G0.out).mono ?_; rintro o w8 ⟨rfl, hb⟩; replace P0 := Go.Lib.hid (row_next hb P0.out); (try (replace G0 := Go.Lib.hid (row_next hb G0.out))); (try (replace G1 := Go.Lib.hid (row_next hb G1.out))); (try (replace G2 := Go.Lib.hid (row_next hb G2.out))); replace hB := Go.Lib.hid (below_next hB.out hb); clear hb)
    | (go_at_call 32; refine (markA_any g1 n cap1 f1 _ hn hc1 G1.out).mono ?_; rintro o w8 ⟨rfl, rfl⟩; replace P0 := Go.Lib.hid (row_set' (g := g1) (show w.heap.size ≠ g1 by omega) P0.out (vrow (cap1 * 3) (mkA f1 (n * 3)))); replace G0 := Go.Lib.hid (row_set' (g := g1) (show g0 ≠ g1 by omega) G0.out (vrow (cap1 * 3) (mkA f1 (n * 3)))); replace G1 := Go.Lib.hid (row_set G1.out (vrow (cap1 * 3) (mkA f1 (n * 3)))); replace hB := Go.Lib.hid (Below_setRow hB.out (show w.heap.size ≤ g1 by omega) (vrow (cap1 * 3) (mkA f1 (n * 3)))); generalize World.setRow _ _ _ = w8 at P0 G0 G1 hB ⊢)
    | (go_at_call 33; refine (heldA_any g1 n cap1 f1 _ hn hc1 G1.out).mono ?_; rintro o w8 ⟨rfl, hb⟩; replace P0 := Go.Lib.hid (row_next hb P0.out); (try (replace G0 := Go.Lib.hid (row_next hb G0.out))); (try (replace G1 := Go.Lib.hid (row_next hb G1.out))); (try (replace G2 := Go.Lib.hid (row_next hb G2.out))); replace hB := Go.Lib.hid (below_next hB.out hb); clear hb))
  go_ret
  exact ⟨rfl, hB.out⟩
theorem bf_law (s : Sh) (k r : Int) (e : ErrE) (w : World) (hE : Errs e w) (hf : s.fit) : Calls Tryd.prog 8 #[.agg s.row, .int .i64 k, .int .i64 r] w fun o w' => o = .returned (.bool true) ∧ Below w.heap.size w w' := by
  rw [← norm_row s]
  have hf2 := norm_fit hf
  have hi0 := inkOk_norm (s := s)
  generalize s.norm = t at *
  cases ho : okI t
  · exact bf_walk0 t k r 1 (fun _ _ => 0) e w hE (fun w => specBF_err t k r 1 _ w hf2 (by simp [bathC, ho]) (.inl rfl)) (fun w hE => implBF_err t k r 1 1 _ e w hE (fun w hE => ckRi_bad t k r e w hE ho) (fun w hE => codeOf_1 e w hE))
  · by_cases hk : (1 ≤ k ∧ k ≤ 15) ∧ (0 ≤ r ∧ r ≤ 100)
    · have hbb := ho
      simp only [okI, Bool.and_eq_true, decide_eq_true_eq] at hbb
      obtain ⟨⟨hb1, hb2⟩, ⟨hb3, hb4⟩, _⟩ := hbb
      obtain ⟨a, ha⟩ : ∃ a : Nat, t.wide = a := ⟨t.wide.toNat, by omega⟩
      obtain ⟨c, hc⟩ : ∃ c : Nat, t.high = c := ⟨t.high.toNat, by omega⟩
      obtain ⟨N, hN⟩ : ∃ N : Nat, r = N := ⟨r.toNat, by omega⟩
      subst hN
      have hgd := Gd.start ho (hi0 ho) hf2
      have hS := fun w => specBF_ok t k N a c w hf2 (by simp [bathC, bfIn, ho, hk.1.1, hk.1.2]; omega) ha hc ⟨by omega, by omega⟩ ⟨by omega, by omega⟩ hgd hk.1.1 hk.1.2 (by omega)
      have hI := fun w hE => implBF_ok t k N a c e w hE ho ha hc ⟨by omega, by omega⟩ ⟨by omega, by omega⟩ hgd hk.1.1 hk.1.2 (by omega)
      by_cases hz : N = 0
      · subst hz
        exact bf_walk0 t k _ 0 _ e w hE hS hI
      · exact bf_walk t k N N 0 _ e w hE (by omega) (by omega) hS hI
    · exact bf_walk0 t k r 2 (fun _ _ => 0) e w hE (fun w => specBF_err t k r 2 _ w hf2 (by
        have hq : ((decide (1 ≤ k) && decide (k ≤ 15)) && bfIn r) = false := by simp [bfIn]; omega
        simp only [bathC, ho, hq, if_true, Bool.false_eq_true, if_false]) (.inr rfl)) (fun w hE => implBF_err t k r 2 2 _ e w hE (fun w hE => ckRi_rng t k r e w hE ho (by omega)) (fun w hE => codeOf_2 e w hE))
end Go.Proofs.YtgbhchmpeioaiaaDoor
