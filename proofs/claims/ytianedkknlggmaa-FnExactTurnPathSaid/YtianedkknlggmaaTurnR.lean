import Derived.Test.YtianedkknlggmaaTurnI
import Derived.Test.YtianedkknlggmaaPathE
namespace Go.Proofs.Ytianedkknlggmaa
open Go.RowKit
set_option maxRecDepth 100000
set_option linter.unusedVariables false
set_option linter.unusedSimpArgs false
theorem own_row_ofB {W : World} {base g cap size n : Nat} {t : TypeId} {xs : List Value} (h : W.ownsRow base t size (.slice (some ⟨g, 0, none⟩) n cap) n xs) : ∃ f : Nat → Value, W.heap[g]? = some (.cells (vrow (cap * size) f) t) ∧ n ≤ cap ∧ ∀ (j : Nat) (u : Value), j < n * size → xs[j]? = some u → f j = u := by
  rcases h.2 with ⟨hv, _⟩ | ⟨g', cap', cur, hv, _, hg, hcap, _, hsz, ht⟩
  · cases hv
  · simp only [Value.slice.injEq, Option.some.injEq, Addr.mk.injEq] at hv
    obtain ⟨⟨rfl, _⟩, _, rfl⟩ := hv
    refine ⟨fun i => cur.getD i undef, ?_, hcap, ?_⟩
    · rw [hg]
      congr 2
      apply Array.ext_getElem?
      intro i
      by_cases hi : i < cap * size
      · rw [vrow_get _ _ _ hi, Array.getD_eq_getD_getElem?, Array.getElem?_eq_getElem (by omega)]; rfl
      · rw [vrow_none _ _ _ hi, Array.getElem?_eq_none (by omega)]
    · intro j u hj hu
      show cur.getD j undef = u
      rw [← ht, List.getElem?_take, if_pos hj] at hu
      rw [Array.getD_eq_getD_getElem?]
      simp only [Array.getElem?_toList] at hu
      rw [hu]; rfl
set_option maxHeartbeats 2000000 in
theorem toSpotS_new (ao : Option Addr) (n cap : Nat) (px py : Nat → Int) (w : World) (hn : n ≤ 1048576) (hp : PathC w ao n px py) : Calls Try.prog 27 #[.slice ao n cap] w fun e w' => e = .returned (.slice (some ⟨w.heap.size, 0, none⟩) n n) ∧ w'.heap[w.heap.size]? = some (.cells (vrow (n * 2) (spf px py)) 93) ∧ Below w.heap.size w w' := by
  have H0 := Go.Lib.hid hp
  have HP := Go.Lib.hid hp
  have hB := Go.Lib.hid (Below.refl w.heap.size w)
  clear hp
  go_enter Try.func27, Try.ntmps27
  go_wp2_with (first
    | go_skip
    | ((with_reducible refine wlAt 7 rfl ?_); refine wpList_make2 rfl (.tmp 6) (.tmp 6) _ rfl 93 Try.underlying45 info_sp2 n rfl rfl hn ?_; have R := Go.Lib.hid (heap_at w (.cells (vrow (n * 2) fun _ => .int .i8 0) 93) _ rfl); replace hB := Go.Lib.hid (hB.out.alloc (Nat.le_refl _) (.cells (vrow (n * 2) fun _ => .int .i8 0) 93)); replace HP := Go.Lib.hid (HP.out.next ((Below.refl w.heap.size w).alloc (Nat.le_refl _) (.cells (vrow (n * 2) fun _ => .int .i8 0) 93)))))
  generalize World.alloc w _ = W1 at R hB HP ⊢
  go_loopw [4] (fun iv wr => ∃ k : Nat, k ≤ n ∧ iv = .int .i64 k ∧ wr.heap[w.heap.size]? = some (.cells (vrow (n * 2) (spk px py k)) 93) ∧ PathC wr ao n px py ∧ Below w.heap.size w wr) (fun iv _ => n - (intOf iv).toNat)
  case atStart => exact ⟨0, by omega, rfl, by rw [spk_0]; exact R.out, HP.out, hB.out⟩
  case round =>
    clear R HP hB
    obtain ⟨k, hk, rfl, R, HP, hB⟩ := hrel
    replace R := Go.Lib.hid R; replace hB := Go.Lib.hid hB
    by_cases hlt : k < n
    · obtain ⟨b, off, rfl, hbl, hc⟩ := HP (by omega)
      have hbw : b < w.heap.size := by
        obtain ⟨b0, o0, he, hb0, _⟩ := H0.out (by omega)
        simp only [Option.some.injEq, Addr.mk.injEq] at he
        rw [he.1]; exact hb0
      obtain ⟨hc0, hc1⟩ := hc k hlt
      have HC0 := Go.Lib.hid hc0; have HC1 := Go.Lib.hid hc1; replace HP := Go.Lib.hid HP
      have hsz := hB.out.size
      have hkI : (k : Int) < (n : Int) := by omega
      have hnl : (n : Int) ≤ 1048576 := by omega
      clear hc hc0 hc1
      go_wp2_with (first
        | go_skip
        | ((with_reducible refine wlAt 19 rfl ?_); refine wpList_loadc rfl 103 (.tmp 18) rfl b (off + k * 2) rfl (.int .i8 (px k)) (.int .i8 (py k)) _ Try.underlying103 rfl size_lspot2 HC0.out HC1.out ?_)
        | (go_at_call 69; (refine (toSp_any (px k) (py k) _).mono ?_); rintro o w1 ⟨rfl, hb⟩; replace R := Go.Lib.hid (row_next hb R.out); replace HP := Go.Lib.hid (HP.out.next hb); replace hB := Go.Lib.hid (below_next hB.out hb); clear hb HC0 HC1)
        | ((with_reducible refine wlOp (.store 93 (.tmp 21) (.tmp 20)) rfl ?_); refine wpList_storemid rfl 93 (.tmp 21) (.tmp 20) rfl w.heap.size (k * 2) rfl (n * 2) 2 (spk px py k) (spAt (px k) (py k)) rfl 93 size_spot R.out (by omega) (fun i _ => spAt_one2 _ _ i) ?_; rw [spk_step]; replace HP := Go.Lib.hid (HP.out.set0 (show b ≠ w.heap.size by omega) (vrow (n * 2) (spk px py (k + 1)))); replace R := Go.Lib.hid (row_set R.out (vrow (n * 2) (spk px py (k + 1)))); replace hB := Go.Lib.hid (Below_setRow hB.out (Nat.le_refl _) (vrow (n * 2) (spk px py (k + 1))))))
      go_roundw
      case rel => exact ⟨k + 1, by omega, by go_num, R.out, HP.out, hB.out⟩
      case measure => simp [intOf]; omega
    · obtain rfl : k = n := by omega
      have hd : decide ((k : Int) < (k : Int)) = false := by simp
      replace HP := Go.Lib.hid HP
      go_wp2
      go_ret
      exact ⟨rfl, by rw [← spk_n]; exact R.out, hB.out⟩
/-- a slice of n spots, that lie below L -/
def SlP (w : World) (v : Value) (n : Nat) (px py : Nat → Int) (L : Nat) : Prop := ∃ ao c, v = .slice ao n c ∧ (0 < n → ∃ D N f, ao = some ⟨D, 0, none⟩ ∧ D < L ∧ n * 2 ≤ N ∧ w.heap[D]? = some (.cells (vrow N f) 93) ∧ ∀ k, k < n → vrow 2 (fun j => f (k * 2 + j)) = vrow 2 (spAt (px k) (py k)))
theorem SlP.next {w w' : World} {v : Value} {n : Nat} {px py : Nat → Int} {L : Nat} (h : SlP w v n px py L) (hb : Below w.heap.size w w') : SlP w' v n px py L := by
  obtain ⟨ao, c, rfl, hr⟩ := h
  refine ⟨ao, c, rfl, fun hn => ?_⟩
  obtain ⟨D, N, f, h1, h2, h3, h4, h5⟩ := hr hn
  exact ⟨D, N, f, h1, h2, h3, row_next hb h4, h5⟩
theorem SlP.set {w : World} {v : Value} {n : Nat} {px py : Nat → Int} {L g : Nat} (h : SlP w v n px py L) (hg : L ≤ g) (cs : Array Value) : SlP (w.setRow g cs) v n px py L := by
  obtain ⟨ao, c, rfl, hr⟩ := h
  refine ⟨ao, c, rfl, fun hn => ?_⟩
  obtain ⟨D, N, f, h1, h2, h3, h4, h5⟩ := hr hn
  exact ⟨D, N, f, h1, h2, h3, row_set' (show D ≠ g by omega) h4 cs, h5⟩
theorem SlP.of {w : World} {D n c N : Nat} {f : Nat → Value} {px py : Nat → Int} (hN : n * 2 ≤ N) (h : w.heap[D]? = some (.cells (vrow N f) 93)) (hf : ∀ k, k < n → vrow 2 (fun j => f (k * 2 + j)) = vrow 2 (spAt (px k) (py k))) : SlP w (.slice (some ⟨D, 0, none⟩) n c) n px py (D + 1) :=
  ⟨_, _, rfl, fun _ => ⟨D, N, f, rfl, by omega, hN, h, hf⟩⟩
set_option maxHeartbeats 2000000 in
theorem eqSpot0_any (a1 a2 : Option Addr) (c1 c2 : Nat) (w : World) : Calls Try.prog 29 #[.slice a1 0 c1, .slice a2 0 c2] w fun e w' => e = .returned (.bool true) ∧ Below w.heap.size w w' := by
  go_enter Try.func29, Try.ntmps29
  go_wp2
  go_loopw [5] (fun iv wr => iv = .int .i64 0 ∧ Below w.heap.size w wr) (fun _ _ => 0)
  case atStart => exact ⟨rfl, Below.refl _ _⟩
  case round =>
    obtain ⟨rfl, hB⟩ := hrel
    go_wp2
    go_ret
    exact ⟨rfl, hB⟩
theorem eqP_any (v1 v2 : Value) (n L1 L2 : Nat) (px py : Nat → Int) (w : World) (hn : n ≤ 1048576) (h1 : SlP w v1 n px py L1) (h2 : SlP w v2 n px py L2) : Calls Try.prog 29 #[v1, v2] w fun e w' => e = .returned (.bool true) ∧ Below w.heap.size w w' := by
  obtain ⟨a1, c1, rfl, g1⟩ := h1
  obtain ⟨a2, c2, rfl, g2⟩ := h2
  rcases Nat.eq_zero_or_pos n with rfl | hp
  · exact eqSpot0_any a1 a2 c1 c2 w
  · obtain ⟨D1, N1, f1, rfl, _, hN1, hr1, hf1⟩ := g1 hp
    obtain ⟨D2, N2, f2, rfl, _, hN2, hr2, hf2⟩ := g2 hp
    exact eqSpotN_any D1 D2 n c1 c2 N1 N2 f1 f2 px py w hn hN1 hN2 hf1 hf2 hr1 hr2
theorem revV_len (px py : Nat → Int) (n : Nat) : ∀ k, (revV px py n k).length = k * 2
  | 0 => rfl
  | k + 1 => by rw [revV_succ, List.length_append, revV_len px py n k]; simp; omega
theorem revV_get (px py : Nat → Int) (n : Nat) : ∀ m k, k < m → (revV px py n m)[k * 2]? = some (.int .i8 (px (n - 1 - k))) ∧ (revV px py n m)[k * 2 + 1]? = some (.int .i8 (py (n - 1 - k)))
  | 0, k, h => absurd h (by omega)
  | m + 1, k, h => by
    rw [revV_succ]
    have hl := revV_len px py n m
    by_cases e : k < m
    · have ih := revV_get px py n m k e
      rw [List.getElem?_append_left (by omega), List.getElem?_append_left (by omega)]
      exact ih
    · obtain rfl : k = m := by omega
      rw [List.getElem?_append_right (by omega), List.getElem?_append_right (by omega), hl]
      simp
theorem rev_row {f : Nat → Value} {px py : Nat → Int} {n : Nat} (h : ∀ (j : Nat) (u : Value), j < n * 2 → (revV px py n n)[j]? = some u → f j = u) (k : Nat) (hk : k < n) : vrow 2 (fun j => f (k * 2 + j)) = vrow 2 (spAt (px (n - 1 - k)) (py (n - 1 - k))) := vrow_ext _ _ _ fun i hi => by
  have hg := revV_get px py n n k hk
  have : i = 0 ∨ i = 1 := by omega
  rcases this with rfl | rfl
  · show f (k * 2) = _; rw [h _ _ (by omega) hg.1]; rfl
  · show f (k * 2 + 1) = _; rw [h _ _ (by omega) hg.2]; rfl
def tx (n : Nat) (p : Nat → Int) (k : Nat) : Int := p (n - 1 - k)
theorem specT_slp (D n : Nat) (px py : Nat → Int) (w : World) (hn : n ≤ 1048576) (h2 : w.heap[D]? = some (.cells (vrow (n * 2) (spf px py)) 93)) : Calls Try.prog 26 #[.slice (some ⟨D, 0, none⟩) n n] w fun e w' => ∃ v, e = .returned v ∧ SlP w' v n (tx n px) (tx n py) w'.heap.size ∧ Below w.heap.size w w' := by
  refine (specTurn_any D n px py w hn h2).mono ?_
  rintro e w' ⟨v, rfl, ho, hb⟩
  refine ⟨v, rfl, ?_, hb⟩
  rcases ho.2 with ⟨rfl, h0⟩ | ⟨g, cap, cur, rfl, _, _, _, _, _, _⟩
  · refine ⟨none, 0, ?_, fun hp => absurd h0 (by omega)⟩
    congr 1; omega
  · obtain ⟨f, h1, h2, h3⟩ := own_row_ofB ho
    exact ⟨_, _, rfl, fun _ => ⟨g, cap * 2, f, rfl, row_lt h1, by omega, h1, fun k hk => rev_row h3 k hk⟩⟩
theorem implT_row (D n : Nat) (px py : Nat → Int) (w : World) (hn : n ≤ 1048576) (h2 : w.heap[D]? = some (.cells (vrow (n * 2) (spf px py)) 93)) : Calls Try.prog 28 #[.slice (some ⟨D, 0, none⟩) n n] w fun e w' => e = .returned (.slice (some ⟨w.heap.size, 0, none⟩) n n) ∧ ∃ f, w'.heap[w.heap.size]? = some (.cells (vrow (n * 2) f) 93) ∧ (∀ k, k < n → vrow 2 (fun j => f (k * 2 + j)) = vrow 2 (spAt (tx n px k) (tx n py k))) ∧ Below w.heap.size w w' := by
  refine (turnP_any D n px py w hn h2).mono ?_
  rintro e w' ⟨rfl, ho, hb⟩
  obtain ⟨f, h1, h2, h3⟩ := own_row_ofB ho
  exact ⟨rfl, f, h1, fun k hk => rev_row h3 k hk, hb⟩
end Go.Proofs.Ytianedkknlggmaa
