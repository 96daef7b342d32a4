import Derived.Test.YtfkialifnkfgcaaDoorDryM
import Derived.Test.YtfkialifnkfgcaaDoorWater
import Derived.Test.YtfkialifnkfgcaaDoorRunM
namespace Go.Proofs.YtfkialifnkfgcaaDoor
open Go.RowKit
set_option maxRecDepth 100000
set_option linter.unusedVariables false
set_option linter.unusedSimpArgs false
theorem cellRun_like {s T : Sh} (h : Gd s T) : cellRun T = cellRun s := by
  funext U p
  unfold cellRun
  rw [wax_like h, nbs_like h]
theorem runS_like {s T : Sh} (h : Gd s T) (l : List Sp8) : runS T l = l.foldl (cellRun s) (T, 0) := by unfold runS; rw [cellRun_like h]
theorem wsum_congr (A B : Sh) : ∀ k, (∀ i, i < k → A.wet i = B.wet i) → wsum A k = wsum B k
  | 0, _ => rfl
  | k + 1, h => by
    show wsum A k + A.wet k = wsum B k + B.wet k
    rw [wsum_congr A B k (fun i hi => h i (by omega)), h k (by omega)]
theorem wsum_sw (T : Sh) (i : Nat) (v : Int) : ∀ k, wsum (T.sw i v) k = if i < k then wsum T k - T.wet i + v else wsum T k
  | 0 => rfl
  | k + 1 => by
    show wsum (T.sw i v) k + (T.sw i v).wet k = _
    rw [wsum_sw T i v k, sw_wet]
    have e : wsum T (k + 1) = wsum T k + T.wet k := rfl
    rw [e]
    by_cases h1 : k = i
    · subst h1
      rw [if_neg (by omega), if_pos rfl, if_pos (by omega)]; omega
    · rw [if_neg h1]
      by_cases h2 : i < k
      · rw [if_pos h2, if_pos (by omega)]; omega
      · rw [if_neg h2, if_neg (by omega)]
theorem give_sum (T : Sh) (x y u v : Nat) (hx : x < 8) (hy : y < 8) (hu : u < 8) (hv : v < 8) (hne : 8 * y + x ≠ 8 * v + u) : wsum (giveS T x y u v) 64 = wsum T 64 := by
  have e := wsum_congr (giveS T x y u v) ((T.sw (8 * y + x) (T.wet (8 * y + x) - 1)).sw (8 * v + u) (T.wet (8 * v + u) + 1)) 64 (fun i _ => by
    rw [giveS_wet, sw_wet, sw_wet])
  rw [e, wsum_sw, wsum_sw, sw_wet, if_pos (by omega), if_pos (by omega), if_neg (Ne.symm hne)]
  omega
theorem gv_sum {s : Sh} {x y : Nat} (hok : okI s = true) (hx : x < 8) (hy : y < 8) : ∀ (l : List Sp8), (∀ q ∈ l, q ∈ nbs s x y 4) → ∀ T : Sh × Int, wsum (l.foldl (gv x y) T).1 64 = wsum T.1 64
  | [], _, _ => rfl
  | q :: l, hl, T => by
    rw [List.foldl_cons, gv_sum hok hx hy l (fun q hq => hl q (List.mem_cons_of_mem _ hq))]
    obtain ⟨_, hne⟩ := nbs_mem hok hx hy 4 (Nat.le_refl _) (hl q List.mem_cons_self)
    unfold gv
    split
    · exact give_sum T.1 x y q.1.1 q.1.2 hx hy q.2.1 q.2.2 hne
    · rfl
theorem run_sum {s : Sh} (hok : okI s = true) : ∀ (l : List Sp8) (T : Sh × Int), wsum (l.foldl (cellRun s) T).1 64 = wsum T.1 64
  | [], _ => rfl
  | p :: l, T => by
    rw [List.foldl_cons, run_sum hok l]
    unfold cellRun
    split
    · rfl
    · exact gv_sum hok p.2.1 p.2.2 _ (fun _ h => h) T
theorem dry_sum {s B : Sh} : ∀ (l : List Sp8) (T : Sh × Int), wsum (l.foldl (cellDry s B) T).1 64 + (l.foldl (cellDry s B) T).2 = wsum T.1 64 + T.2
  | [], _ => rfl
  | p :: l, T => by
    rw [List.foldl_cons, dry_sum l]
    have := pix_lt p
    show wsum (T.1.sw (pix p) (T.1.wet (pix p) - loss s B p)) 64 + (T.2 + loss s B p) = _
    rw [wsum_sw, if_pos (by omega)]
    omega
theorem dry_none {s B : Sh} (hB : ∀ i, i < 64 → 0 ≤ B.wet i) : ∀ (l : List Sp8) (T : Sh × Int), (l.foldl (cellDry s B) T).2 = T.2 → ∀ p ∈ l, B.wet (pix p) = 0
  | [], _, _, p, hp => by cases hp
  | q :: l, T, h, p, hp => by
    have h1 := (dry_mono (s := s) hB l (cellDry s B T q)).1
    have hb := (loss_bd (s := s) (B := B) (p := q) (hB _ (pix_lt q))).1
    have hs : (cellDry s B T q).2 = T.2 + loss s B q := rfl
    rw [List.foldl_cons] at h
    have h0 : loss s B q = 0 := by omega
    rcases List.mem_cons.1 hp with rfl | hp
    · have := (dryN_bd B (nbs s p.1.1 p.1.2 4)).1
      have := hB _ (pix_lt p)
      unfold loss at h0
      omega
    · exact dry_none (s := s) hB l (cellDry s B T q) (by omega) p hp
theorem psum_none (s : Sh) : ∀ l : List Sp8, (∀ p ∈ l, s.wet (pix p) = 0) → psumL s l = 0
  | [], _ => rfl
  | p :: l, h => by
    have h1 := psum_none s l (fun q hq => h q (List.mem_cons_of_mem _ hq))
    have h2 : s.wet (8 * p.1.2 + p.1.1) = 0 := h p List.mem_cons_self
    show l.foldl _ (0 + s.wet (8 * p.1.2 + p.1.1)) = 0
    rw [psum_from, h1, h2]; rfl
/-- a sheet runs for a round, and dries for one -/
def rdS (s : Sh) (L : List Sp8) : Nat → Sh
  | 0 => s
  | k + 1 => (L.foldl (cellDry s (L.foldl (cellRun s) (rdS s L k, 0)).1) ((L.foldl (cellRun s) (rdS s L k, 0)).1, 0)).1
structure RdIn (s : Sh) (L : List Sp8) : Prop where
  ok : okI s = true
  nodup : (L.map pix).Nodup
  mem : ∀ p ∈ L, hasB s p.1.1 p.1.2 = true
  all : L = cellsL s.wide.toNat s.high.toNat
theorem rd_gd {s : Sh} {L : List Sp8} (h : RdIn s L) (hi : InkOk s) (hf : s.fit) : ∀ k, Gd s (rdS s L k) ∧ Gd s (L.foldl (cellRun s) (rdS s L k, 0)).1
  | 0 => ⟨Gd.start h.ok hi hf, (runS_gd h.ok L h.mem (s, 0) (Gd.start h.ok hi hf)).1⟩
  | k + 1 => by
    have g := rd_gd h hi hf k
    have g1 : Gd s (rdS s L (k + 1)) := g.2.dried (dry_all g.2 h.nodup)
    exact ⟨g1, (runS_gd h.ok L h.mem (rdS s L (k + 1), 0) g1).1⟩
theorem wsum_pos {s T : Sh} (h : Gd s T) : ∀ k : Nat, k ≤ 64 → 0 ≤ wsum T k ∧ wsum T k ≤ 200 * (k : Int)
  | 0, _ => ⟨Int.le_refl 0, Int.le_refl 0⟩
  | k + 1, hk => by
    obtain ⟨h1, h2⟩ := wsum_pos h k (by omega)
    obtain ⟨h3, h4⟩ := wet_pos h k (by omega)
    show 0 ≤ wsum T k + T.wet k ∧ wsum T k + T.wet k ≤ _
    omega
theorem rd_less {s : Sh} {L : List Sp8} (h : RdIn s L) (hi : InkOk s) (hf : s.fit) (k : Nat) (hz : wsum (rdS s L k) 64 ≠ 0) : wsum (rdS s L (k + 1)) 64 < wsum (rdS s L k) 64 := by
  obtain ⟨g1, g2⟩ := rd_gd h hi hf k
  have e1 := run_sum h.ok L (rdS s L k, 0)
  have e2 := dry_sum (s := s) (B := (L.foldl (cellRun s) (rdS s L k, 0)).1) L ((L.foldl (cellRun s) (rdS s L k, 0)).1, 0)
  have hd := dry_none (s := s) (fun i hi => (wet_pos g2 i hi).1) L ((L.foldl (cellRun s) (rdS s L k, 0)).1, 0)
  have hb := (dry_all g2 h.nodup).sum.1
  change wsum (rdS s L (k + 1)) 64 + _ = _ at e2
  by_cases h0 : (L.foldl (cellDry s (L.foldl (cellRun s) (rdS s L k, 0)).1) ((L.foldl (cellRun s) (rdS s L k, 0)).1, 0)).2 = 0
  · exfalso
    have hz2 := psum_none _ L (hd h0)
    have hw := water_eq _ g2.ok
    rw [g2.wide, g2.high, ← h.all, hz2, e1] at hw
    exact hz hw.symm
  · simp only at e1 e2
    omega
theorem rd_end {s : Sh} {L : List Sp8} (h : RdIn s L) (hi : InkOk s) (hf : s.fit) : ∀ (m k : Nat), wsum (rdS s L k) 64 ≤ m → ∃ N, k ≤ N ∧ N ≤ k + m ∧ wsum (rdS s L N) 64 = 0 ∧ ∀ j, k ≤ j → j < N → wsum (rdS s L j) 64 ≠ 0
  | 0, k, hm => ⟨k, Nat.le_refl _, Nat.le_refl _, by have := (wsum_pos (rd_gd h hi hf k).1 64 (Nat.le_refl _)).1; omega, fun j h1 h2 => by omega⟩
  | m + 1, k, hm => by
    by_cases hz : wsum (rdS s L k) 64 = 0
    · exact ⟨k, Nat.le_refl _, by omega, hz, fun j h1 h2 => by omega⟩
    · obtain ⟨N, h1, h2, h3, h4⟩ := rd_end h hi hf m (k + 1) (by have := rd_less h hi hf k hz; omega)
      refine ⟨N, by omega, by omega, h3, fun j hj1 hj2 => ?_⟩
      by_cases hj : j = k
      · rw [hj]; exact hz
      · exact h4 j (by omega) hj2
theorem rd_num {s : Sh} {L : List Sp8} (h : RdIn s L) (hi : InkOk s) (hf : s.fit) : ∃ N, N ≤ 12800 ∧ wsum (rdS s L N) 64 = 0 ∧ ∀ j, j < N → wsum (rdS s L j) 64 ≠ 0 := by
  obtain ⟨N, _, h2, h3, h4⟩ := rd_end h hi hf 12800 0 (by have := (wsum_pos (rd_gd h hi hf 0).1 64 (Nat.le_refl _)).2; omega)
  exact ⟨N, by omega, h3, fun j hj => h4 j (Nat.zero_le _) hj⟩
theorem rd_in {s : Sh} {a c : Nat} (ea : s.wide = a) (ec : s.high = c) (ha : a ≤ 8) (hc : c ≤ 8) (hok : okI s = true) : RdIn s (cellsL a c) := by
  refine ⟨hok, cellsL_pix a c ha hc, fun p hp => ?_, by rw [ea, ec, Int.toNat_natCast, Int.toNat_natCast]⟩
  have h2 : p.1 ∈ pairsL a c := by rw [← cellsL_val a c ha c hc]; exact List.mem_map_of_mem hp
  obtain ⟨h3, h4⟩ := pairsL_mem h2
  unfold hasB
  simp; omega
end Go.Proofs.YtfkialifnkfgcaaDoor
