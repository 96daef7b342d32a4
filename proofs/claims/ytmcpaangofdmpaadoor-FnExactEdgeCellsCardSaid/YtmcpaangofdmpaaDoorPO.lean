import Derived.Test.YtmcpaangofdmpaaDoorSpots
import Derived.Test.YtmcpaangofdmpaaDoorSlPs
import Derived.Test.YtmcpaangofdmpaaDoorPathK
namespace Go.Proofs.YtmcpaangofdmpaaDoor
open Go.RowKit
set_option maxRecDepth 100000
set_option linter.unusedVariables false
set_option linter.unusedSimpArgs false
def lx (l : List Sp8) (k : Nat) : Int := if h : k < l.length then ((l[k]'h).1.1 : Int) else 0
def ly (l : List Sp8) (k : Nat) : Int := if h : k < l.length then ((l[k]'h).1.2 : Int) else 0
theorem SlP.now {w : World} {v : Value} {n : Nat} {px py : Nat → Int} {L : Nat} (h : SlP w v n px py L) : SlP w v n px py w.heap.size := by
  obtain ⟨ao, c, rfl, hr⟩ := h
  refine ⟨ao, c, rfl, fun hn => ?_⟩
  obtain ⟨D, N, f, h1, h2, h3, h4, h5⟩ := hr hn
  exact ⟨D, N, f, h1, row_lt h4, h3, h4, h5⟩
theorem SlP.below {w w' : World} {v : Value} {n : Nat} {px py : Nat → Int} {L : Nat} (h : SlP w v n px py L) (hb : Below L w w') : SlP w' v n px py L := by
  obtain ⟨ao, c, rfl, hr⟩ := h
  refine ⟨ao, c, rfl, fun hn => ?_⟩
  obtain ⟨D, N, f, h1, h2, h3, h4, h5⟩ := hr hn
  exact ⟨D, N, f, h1, h2, h3, row_below hb h2 h4, h5⟩
/-- the program's slice: of its own from B on -/
def PO (w : World) (v : Value) (n : Nat) (px py : Nat → Int) (B : Nat) : Prop := ∃ ao c, v = .slice ao n c ∧ (n = 0 ∨ ∃ g N f, ao = some ⟨g, 0, none⟩ ∧ B ≤ g ∧ n * 2 ≤ N ∧ w.heap[g]? = some (.cells (vrow N f) 111) ∧ ∀ k, k < n → vrow 2 (fun j => f (k * 2 + j)) = vrow 2 (spAt (px k) (py k)))
theorem PO.next {w w' : World} {v : Value} {n : Nat} {px py : Nat → Int} {B : Nat} (h : PO w v n px py B) (hb : Below w.heap.size w w') : PO w' v n px py B := by
  obtain ⟨ao, c, rfl, hr⟩ := h
  refine ⟨ao, c, rfl, hr.imp id ?_⟩
  rintro ⟨g, N, f, h1, h2, h3, h4, h5⟩
  exact ⟨g, N, f, h1, h2, h3, row_next hb h4, h5⟩
theorem PO.slp {w : World} {v : Value} {n : Nat} {px py : Nat → Int} {B : Nat} (h : PO w v n px py B) : SlP w v n px py w.heap.size := by
  obtain ⟨ao, c, rfl, hr⟩ := h
  refine ⟨ao, c, rfl, fun hn => ?_⟩
  rcases hr with h0 | ⟨g, N, f, h1, h2, h3, h4, h5⟩
  · omega
  · exact ⟨g, N, f, h1, row_lt h4, h3, h4, h5⟩
theorem own_po {W : World} {base : Nat} {v : Value} {l : List Sp8} (h : W.ownsRow base 111 2 v l.length (vals l)) : PO W v l.length (lx l) (ly l) base := by
  rcases h.2 with ⟨rfl, h0⟩ | ⟨g, cap, cur, rfl, hg, _, _, _, _, _⟩
  · refine ⟨none, 0, ?_, .inl h0⟩
    rw [h0]
  · obtain ⟨f, h1, h2, h3⟩ := own_row_ofB h
    refine ⟨_, _, rfl, .inr ⟨g, cap * 2, f, rfl, hg, by omega, h1, fun k hk => ?_⟩⟩
    obtain ⟨g0, g1⟩ := vals_get l k hk
    refine vrow_ext _ _ _ fun i hi => ?_
    have : i = 0 ∨ i = 1 := by omega
    rcases this with rfl | rfl
    · show f (k * 2) = _
      rw [h3 (k * 2) _ (by omega) (by rw [Nat.mul_comm]; exact g0)]
      unfold lx spAt
      rw [dif_pos hk]; rfl
    · show f (k * 2 + 1) = _
      rw [h3 (k * 2 + 1) _ (by omega) (by rw [Nat.mul_comm]; exact g1)]
      unfold ly spAt
      rw [dif_pos hk]; rfl
def MO (w : World) (v : Value) (n : Nat) : Prop := ∃ ao c, v = .slice ao n c ∧ (n = 0 ∨ ∃ g N f, ao = some ⟨g, 0, none⟩ ∧ n * 2 ≤ N ∧ w.heap[g]? = some (.cells (vrow N (mkC f 1 (n * 2))) 111))
theorem MO.next {w w' : World} {v : Value} {n : Nat} (h : MO w v n) (hb : Below w.heap.size w w') : MO w' v n := by
  obtain ⟨ao, c, rfl, hr⟩ := h
  refine ⟨ao, c, rfl, hr.imp id ?_⟩
  rintro ⟨g, N, f, h1, h3, h4⟩
  exact ⟨g, N, f, h1, h3, row_next hb h4⟩
set_option maxHeartbeats 2000000 in
theorem mark0_any (ao : Option Addr) (c : Nat) (k : Int) (w : World) : Calls Tryd.prog 40 #[.slice ao 0 c, .int .i64 k] w fun e w' => e = .returned (.int .i64 k) ∧ Below w.heap.size w w' := by
  go_enter Tryd.func40, Tryd.ntmps40
  go_wp2
  go_loopw [1, 5] (fun kv iv wr => kv = .int .i64 k ∧ iv = .int .i64 0 ∧ Below w.heap.size w wr) (fun _ _ _ => 0)
  case atStart => exact ⟨rfl, rfl, Below.refl _ _⟩
  case round =>
    obtain ⟨rfl, rfl, hB⟩ := hrel
    go_wp2
    go_ret
    exact ⟨rfl, hB⟩
set_option maxHeartbeats 2000000 in
theorem held0_any (ao : Option Addr) (c : Nat) (k : Int) (w : World) : Calls Tryd.prog 41 #[.slice ao 0 c, .int .i64 k] w fun e w' => e = .returned (.int .i64 k) ∧ Below w.heap.size w w' := by
  go_enter Tryd.func41, Tryd.ntmps41
  go_wp2
  go_loopw [1, 5] (fun kv iv wr => kv = .int .i64 k ∧ iv = .int .i64 0 ∧ Below w.heap.size w wr) (fun _ _ _ => 0)
  case atStart => exact ⟨rfl, rfl, Below.refl _ _⟩
  case round =>
    obtain ⟨rfl, rfl, hB⟩ := hrel
    go_wp2
    go_ret
    exact ⟨rfl, hB⟩
theorem markPO (v : Value) (n : Nat) (px py : Nat → Int) (B : Nat) (w : World) (hn : n ≤ 1048576) (hB : B ≤ w.heap.size) (h : PO w v n px py B) : Calls Tryd.prog 40 #[v, .int .i64 1] w fun e w' => e = .returned (.int .i64 (1 + (n : Int) * 2)) ∧ MO w' v n ∧ Below B w w' := by
  obtain ⟨ao, c, rfl, hr⟩ := h
  rcases hr with rfl | ⟨g, N, f, rfl, hg, hN, hr, _⟩
  · refine (mark0_any ao c 1 w).mono ?_
    rintro e w' ⟨rfl, hb⟩
    exact ⟨by simp, ⟨ao, c, rfl, .inl rfl⟩, hb.mono hB⟩
  · refine (markS_any g n c N f 1 w hn hN ⟨by omega, by omega⟩ hr).mono ?_
    rintro e w' ⟨rfl, rfl⟩
    exact ⟨rfl, ⟨_, _, rfl, .inr ⟨g, N, f, rfl, hN, row_set hr _⟩⟩, Below_setRow (Below.refl _ _) hg _⟩
theorem heldMO (v : Value) (n : Nat) (w : World) (hn : n ≤ 1048576) (h : MO w v n) : Calls Tryd.prog 41 #[v, .int .i64 1] w fun e w' => e = .returned (.int .i64 (1 + (n : Int) * 2)) ∧ Below w.heap.size w w' := by
  obtain ⟨ao, c, rfl, hr⟩ := h
  rcases hr with rfl | ⟨g, N, f, rfl, hN, hr⟩
  · refine (held0_any ao c 1 w).mono ?_
    rintro e w' ⟨rfl, hb⟩
    exact ⟨by simp, hb⟩
  · exact heldS_any g n c N f 1 w hn hN ⟨by omega, by omega⟩ hr
end Go.Proofs.YtmcpaangofdmpaaDoor
