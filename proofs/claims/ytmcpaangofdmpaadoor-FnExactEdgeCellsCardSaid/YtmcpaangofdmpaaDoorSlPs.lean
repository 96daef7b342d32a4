import Derived.Test.YtmcpaangofdmpaaDoorPathE
import Derived.Test.YtmcpaangofdmpaaDoorPathK
namespace Go.Proofs.YtmcpaangofdmpaaDoor
open Go.RowKit
set_option maxRecDepth 100000
set_option linter.unusedVariables false
set_option linter.unusedSimpArgs false
theorem own_row_ofB {W : World} {base g cap size n : Nat} {t : TypeId} {xs : List Value} (h : W.ownsRow base t size (.slice (some ⟨g, 0, none⟩) n cap) n xs) : ∃ f : Nat → Value, W.heap[g]? = some (.cells (vrow (cap * size) f) t) ∧ n ≤ cap ∧ ∀ (j : Nat) (u : Value), j < n * size → xs[j]? = some u → f j = u := by
  rcases h.2 with ⟨hv, _⟩ | ⟨g', cap', cur, hv, _, hg, hcap, _, hsz, ht⟩
  · cases hv
  · simp only [Value.slice.injEq, Option.some.injEq, Addr.mk.injEq] at hv
    obtain ⟨⟨rfl, _⟩, _, rfl⟩ := hv
    refine ⟨fun i => cur.getD i undef, ?_, hcap, ?_⟩
    · rw [hg]
      congr 2
      apply Array.ext_getElem?
      intro i
      by_cases hi : i < cap * size
      · rw [vrow_get _ _ _ hi, Array.getD_eq_getD_getElem?, Array.getElem?_eq_getElem (by omega)]; rfl
      · rw [vrow_none _ _ _ hi, Array.getElem?_eq_none (by omega)]
    · intro j u hj hu
      show cur.getD j undef = u
      rw [← ht, List.getElem?_take, if_pos hj] at hu
      rw [Array.getD_eq_getD_getElem?]
      simp only [Array.getElem?_toList] at hu
      rw [hu]; rfl
/-- a slice of n spots, that lie below L -/
def SlP (w : World) (v : Value) (n : Nat) (px py : Nat → Int) (L : Nat) : Prop := ∃ ao c, v = .slice ao n c ∧ (0 < n → ∃ D N f, ao = some ⟨D, 0, none⟩ ∧ D < L ∧ n * 2 ≤ N ∧ w.heap[D]? = some (.cells (vrow N f) 111) ∧ ∀ k, k < n → vrow 2 (fun j => f (k * 2 + j)) = vrow 2 (spAt (px k) (py k)))
theorem SlP.next {w w' : World} {v : Value} {n : Nat} {px py : Nat → Int} {L : Nat} (h : SlP w v n px py L) (hb : Below w.heap.size w w') : SlP w' v n px py L := by
  obtain ⟨ao, c, rfl, hr⟩ := h
  refine ⟨ao, c, rfl, fun hn => ?_⟩
  obtain ⟨D, N, f, h1, h2, h3, h4, h5⟩ := hr hn
  exact ⟨D, N, f, h1, h2, h3, row_next hb h4, h5⟩
theorem SlP.set {w : World} {v : Value} {n : Nat} {px py : Nat → Int} {L g : Nat} (h : SlP w v n px py L) (hg : L ≤ g) (cs : Array Value) : SlP (w.setRow g cs) v n px py L := by
  obtain ⟨ao, c, rfl, hr⟩ := h
  refine ⟨ao, c, rfl, fun hn => ?_⟩
  obtain ⟨D, N, f, h1, h2, h3, h4, h5⟩ := hr hn
  exact ⟨D, N, f, h1, h2, h3, row_set' (show D ≠ g by omega) h4 cs, h5⟩
theorem SlP.of {w : World} {D n c N : Nat} {f : Nat → Value} {px py : Nat → Int} (hN : n * 2 ≤ N) (h : w.heap[D]? = some (.cells (vrow N f) 111)) (hf : ∀ k, k < n → vrow 2 (fun j => f (k * 2 + j)) = vrow 2 (spAt (px k) (py k))) : SlP w (.slice (some ⟨D, 0, none⟩) n c) n px py (D + 1) :=
  ⟨_, _, rfl, fun _ => ⟨D, N, f, rfl, by omega, hN, h, hf⟩⟩
set_option maxHeartbeats 2000000 in
theorem eqSpot0_any (a1 a2 : Option Addr) (c1 c2 : Nat) (w : World) : Calls Tryd.prog 39 #[.slice a1 0 c1, .slice a2 0 c2] w fun e w' => e = .returned (.bool true) ∧ Below w.heap.size w w' := by
  go_enter Tryd.func39, Tryd.ntmps39
  go_wp2
  go_loopw [5] (fun iv wr => iv = .int .i64 0 ∧ Below w.heap.size w wr) (fun _ _ => 0)
  case atStart => exact ⟨rfl, Below.refl _ _⟩
  case round =>
    obtain ⟨rfl, hB⟩ := hrel
    go_wp2
    go_ret
    exact ⟨rfl, hB⟩
theorem eqP_any (v1 v2 : Value) (n L1 L2 : Nat) (px py : Nat → Int) (w : World) (hn : n ≤ 1048576) (h1 : SlP w v1 n px py L1) (h2 : SlP w v2 n px py L2) : Calls Tryd.prog 39 #[v1, v2] w fun e w' => e = .returned (.bool true) ∧ Below w.heap.size w w' := by
  obtain ⟨a1, c1, rfl, g1⟩ := h1
  obtain ⟨a2, c2, rfl, g2⟩ := h2
  rcases Nat.eq_zero_or_pos n with rfl | hp
  · exact eqSpot0_any a1 a2 c1 c2 w
  · obtain ⟨D1, N1, f1, rfl, _, hN1, hr1, hf1⟩ := g1 hp
    obtain ⟨D2, N2, f2, rfl, _, hN2, hr2, hf2⟩ := g2 hp
    exact eqSpotN_any D1 D2 n c1 c2 N1 N2 f1 f2 px py w hn hN1 hN2 hf1 hf2 hr1 hr2
end Go.Proofs.YtmcpaangofdmpaaDoor
