import Derived.Test.YtflmkhjleifbbaaDoorPB1
import Derived.Test.YtflmkhjleifbbaaDoorSpots
import Derived.Test.YtflmkhjleifbbaaDoorRC1
import Derived.Test.YtflmkhjleifbbaaDoorRB3
import Derived.Test.YtflmkhjleifbbaaDoorEqSheet
namespace Go.Proofs.YtflmkhjleifbbaaDoor
open Go.RowKit
set_option maxRecDepth 100000
set_option linter.unusedVariables false
set_option linter.unusedSimpArgs false
theorem own_row_ofB {W : World} {base g cap size n : Nat} {t : TypeId} {xs : List Value} (h : W.ownsRow base t size (.slice (some ⟨g, 0, none⟩) n cap) n xs) : ∃ f : Nat → Value, W.heap[g]? = some (.cells (vrow (cap * size) f) t) ∧ n ≤ cap ∧ ∀ (j : Nat) (u : Value), j < n * size → xs[j]? = some u → f j = u := by
  rcases h.2 with ⟨hv, _⟩ | ⟨g', cap', cur, hv, _, hg, hcap, _, hsz, ht⟩
  · cases hv
  · simp only [Value.slice.injEq, Option.some.injEq, Addr.mk.injEq] at hv
    obtain ⟨⟨rfl, _⟩, _, rfl⟩ := hv
    refine ⟨fun i => cur.getD i undef, ?_, hcap, ?_⟩
    · rw [hg]
      congr 2
      apply Array.ext_getElem?
      intro i
      by_cases hi : i < cap * size
      · rw [vrow_get _ _ _ hi, Array.getD_eq_getD_getElem?, Array.getElem?_eq_getElem (by omega)]; rfl
      · rw [vrow_none _ _ _ hi, Array.getElem?_eq_none (by omega)]
    · intro j u hj hu
      show cur.getD j undef = u
      rw [← ht, List.getElem?_take, if_pos hj] at hu
      rw [Array.getD_eq_getD_getElem?]
      simp only [Array.getElem?_toList] at hu
      rw [hu]; rfl
/-- a slice of n spots, that lie below L -/
def SlP (w : World) (v : Value) (n : Nat) (px py : Nat → Int) (L : Nat) : Prop := ∃ ao c, v = .slice ao n c ∧ (0 < n → ∃ D N f, ao = some ⟨D, 0, none⟩ ∧ D < L ∧ n * 2 ≤ N ∧ w.heap[D]? = some (.cells (vrow N f) 42) ∧ ∀ k, k < n → vrow 2 (fun j => f (k * 2 + j)) = vrow 2 (spAt (px k) (py k)))
theorem SlP.next {w w' : World} {v : Value} {n : Nat} {px py : Nat → Int} {L : Nat} (h : SlP w v n px py L) (hb : Below w.heap.size w w') : SlP w' v n px py L := by
  obtain ⟨ao, c, rfl, hr⟩ := h
  refine ⟨ao, c, rfl, fun hn => ?_⟩
  obtain ⟨D, N, f, h1, h2, h3, h4, h5⟩ := hr hn
  exact ⟨D, N, f, h1, h2, h3, row_next hb h4, h5⟩
theorem SlP.set {w : World} {v : Value} {n : Nat} {px py : Nat → Int} {L g : Nat} (h : SlP w v n px py L) (hg : L ≤ g) (cs : Array Value) : SlP (w.setRow g cs) v n px py L := by
  obtain ⟨ao, c, rfl, hr⟩ := h
  refine ⟨ao, c, rfl, fun hn => ?_⟩
  obtain ⟨D, N, f, h1, h2, h3, h4, h5⟩ := hr hn
  exact ⟨D, N, f, h1, h2, h3, row_set' (show D ≠ g by omega) h4 cs, h5⟩
theorem SlP.of {w : World} {D n c N : Nat} {f : Nat → Value} {px py : Nat → Int} (hN : n * 2 ≤ N) (h : w.heap[D]? = some (.cells (vrow N f) 42)) (hf : ∀ k, k < n → vrow 2 (fun j => f (k * 2 + j)) = vrow 2 (spAt (px k) (py k))) : SlP w (.slice (some ⟨D, 0, none⟩) n c) n px py (D + 1) :=
  ⟨_, _, rfl, fun _ => ⟨D, N, f, rfl, by omega, hN, h, hf⟩⟩
set_option maxHeartbeats 2000000 in
theorem eqSpot0_any (a1 a2 : Option Addr) (c1 c2 : Nat) (w : World) : Calls Tryd.prog 18 #[.slice a1 0 c1, .slice a2 0 c2] w fun e w' => e = .returned (.bool true) ∧ Below w.heap.size w w' := by
  go_enter Tryd.func18, Tryd.ntmps18
  go_wp2
  go_loopw [5] (fun iv wr => iv = .int .i64 0 ∧ Below w.heap.size w wr) (fun _ _ => 0)
  case atStart => exact ⟨rfl, Below.refl _ _⟩
  case round =>
    obtain ⟨rfl, hB⟩ := hrel
    go_wp2
    go_ret
    exact ⟨rfl, hB⟩
theorem eqP_any (v1 v2 : Value) (n L1 L2 : Nat) (px py : Nat → Int) (w : World) (hn : n ≤ 1048576) (h1 : SlP w v1 n px py L1) (h2 : SlP w v2 n px py L2) : Calls Tryd.prog 18 #[v1, v2] w fun e w' => e = .returned (.bool true) ∧ Below w.heap.size w w' := by
  obtain ⟨a1, c1, rfl, g1⟩ := h1
  obtain ⟨a2, c2, rfl, g2⟩ := h2
  rcases Nat.eq_zero_or_pos n with rfl | hp
  · exact eqSpot0_any a1 a2 c1 c2 w
  · obtain ⟨D1, N1, f1, rfl, _, hN1, hr1, hf1⟩ := g1 hp
    obtain ⟨D2, N2, f2, rfl, _, hN2, hr2, hf2⟩ := g2 hp
    exact eqSpotN_any D1 D2 n c1 c2 N1 N2 f1 f2 px py w hn hN1 hN2 hf1 hf2 hr1 hr2
end Go.Proofs.YtflmkhjleifbbaaDoor
namespace Go.Proofs.YtflmkhjleifbbaaDoor
open Go.RowKit
set_option maxRecDepth 100000
set_option linter.unusedVariables false
set_option linter.unusedSimpArgs false
def lx (l : List Sp8) (k : Nat) : Int := if h : k < l.length then ((l[k]'h).1.1 : Int) else 0
def ly (l : List Sp8) (k : Nat) : Int := if h : k < l.length then ((l[k]'h).1.2 : Int) else 0
theorem SlP.now {w : World} {v : Value} {n : Nat} {px py : Nat → Int} {L : Nat} (h : SlP w v n px py L) : SlP w v n px py w.heap.size := by
  obtain ⟨ao, c, rfl, hr⟩ := h
  refine ⟨ao, c, rfl, fun hn => ?_⟩
  obtain ⟨D, N, f, h1, h2, h3, h4, h5⟩ := hr hn
  exact ⟨D, N, f, h1, row_lt h4, h3, h4, h5⟩
theorem SlP.below {w w' : World} {v : Value} {n : Nat} {px py : Nat → Int} {L : Nat} (h : SlP w v n px py L) (hb : Below L w w') : SlP w' v n px py L := by
  obtain ⟨ao, c, rfl, hr⟩ := h
  refine ⟨ao, c, rfl, fun hn => ?_⟩
  obtain ⟨D, N, f, h1, h2, h3, h4, h5⟩ := hr hn
  exact ⟨D, N, f, h1, h2, h3, row_below hb h2 h4, h5⟩
/-- the program's slice: of its own from B on -/
def PO (w : World) (v : Value) (n : Nat) (px py : Nat → Int) (B : Nat) : Prop := ∃ ao c, v = .slice ao n c ∧ (n = 0 ∨ ∃ g N f, ao = some ⟨g, 0, none⟩ ∧ B ≤ g ∧ n * 2 ≤ N ∧ w.heap[g]? = some (.cells (vrow N f) 42) ∧ ∀ k, k < n → vrow 2 (fun j => f (k * 2 + j)) = vrow 2 (spAt (px k) (py k)))
theorem PO.next {w w' : World} {v : Value} {n : Nat} {px py : Nat → Int} {B : Nat} (h : PO w v n px py B) (hb : Below w.heap.size w w') : PO w' v n px py B := by
  obtain ⟨ao, c, rfl, hr⟩ := h
  refine ⟨ao, c, rfl, hr.imp id ?_⟩
  rintro ⟨g, N, f, h1, h2, h3, h4, h5⟩
  exact ⟨g, N, f, h1, h2, h3, row_next hb h4, h5⟩
theorem PO.slp {w : World} {v : Value} {n : Nat} {px py : Nat → Int} {B : Nat} (h : PO w v n px py B) : SlP w v n px py w.heap.size := by
  obtain ⟨ao, c, rfl, hr⟩ := h
  refine ⟨ao, c, rfl, fun hn => ?_⟩
  rcases hr with h0 | ⟨g, N, f, h1, h2, h3, h4, h5⟩
  · omega
  · exact ⟨g, N, f, h1, row_lt h4, h3, h4, h5⟩
theorem own_po {W : World} {base : Nat} {v : Value} {l : List Sp8} (h : W.ownsRow base 42 2 v l.length (vals l)) : PO W v l.length (lx l) (ly l) base := by
  rcases h.2 with ⟨rfl, h0⟩ | ⟨g, cap, cur, rfl, hg, _, _, _, _, _⟩
  · refine ⟨none, 0, ?_, .inl h0⟩
    rw [h0]
  · obtain ⟨f, h1, h2, h3⟩ := own_row_ofB h
    refine ⟨_, _, rfl, .inr ⟨g, cap * 2, f, rfl, hg, by omega, h1, fun k hk => ?_⟩⟩
    obtain ⟨g0, g1⟩ := vals_get l k hk
    refine vrow_ext _ _ _ fun i hi => ?_
    have : i = 0 ∨ i = 1 := by omega
    rcases this with rfl | rfl
    · show f (k * 2) = _
      rw [h3 (k * 2) _ (by omega) (by rw [Nat.mul_comm]; exact g0)]
      unfold lx spAt
      rw [dif_pos hk]; rfl
    · show f (k * 2 + 1) = _
      rw [h3 (k * 2 + 1) _ (by omega) (by rw [Nat.mul_comm]; exact g1)]
      unfold ly spAt
      rw [dif_pos hk]; rfl
def MO (w : World) (v : Value) (n : Nat) : Prop := ∃ ao c, v = .slice ao n c ∧ (n = 0 ∨ ∃ g N f, ao = some ⟨g, 0, none⟩ ∧ n * 2 ≤ N ∧ w.heap[g]? = some (.cells (vrow N (mkC f 1 (n * 2))) 42))
theorem MO.next {w w' : World} {v : Value} {n : Nat} (h : MO w v n) (hb : Below w.heap.size w w') : MO w' v n := by
  obtain ⟨ao, c, rfl, hr⟩ := h
  refine ⟨ao, c, rfl, hr.imp id ?_⟩
  rintro ⟨g, N, f, h1, h3, h4⟩
  exact ⟨g, N, f, h1, h3, row_next hb h4⟩
set_option maxHeartbeats 2000000 in
theorem mark0_any (ao : Option Addr) (c : Nat) (k : Int) (w : World) : Calls Tryd.prog 19 #[.slice ao 0 c, .int .i64 k] w fun e w' => e = .returned (.int .i64 k) ∧ Below w.heap.size w w' := by
  go_enter Tryd.func19, Tryd.ntmps19
  go_wp2
  go_loopw [1, 5] (fun kv iv wr => kv = .int .i64 k ∧ iv = .int .i64 0 ∧ Below w.heap.size w wr) (fun _ _ _ => 0)
  case atStart => exact ⟨rfl, rfl, Below.refl _ _⟩
  case round =>
    obtain ⟨rfl, rfl, hB⟩ := hrel
    go_wp2
    go_ret
    exact ⟨rfl, hB⟩
set_option maxHeartbeats 2000000 in
theorem held0_any (ao : Option Addr) (c : Nat) (k : Int) (w : World) : Calls Tryd.prog 20 #[.slice ao 0 c, .int .i64 k] w fun e w' => e = .returned (.int .i64 k) ∧ Below w.heap.size w w' := by
  go_enter Tryd.func20, Tryd.ntmps20
  go_wp2
  go_loopw [1, 5] (fun kv iv wr => kv = .int .i64 k ∧ iv = .int .i64 0 ∧ Below w.heap.size w wr) (fun _ _ _ => 0)
  case atStart => exact ⟨rfl, rfl, Below.refl _ _⟩
  case round =>
    obtain ⟨rfl, rfl, hB⟩ := hrel
    go_wp2
    go_ret
    exact ⟨rfl, hB⟩
theorem markPO (v : Value) (n : Nat) (px py : Nat → Int) (B : Nat) (w : World) (hn : n ≤ 1048576) (hB : B ≤ w.heap.size) (h : PO w v n px py B) : Calls Tryd.prog 19 #[v, .int .i64 1] w fun e w' => e = .returned (.int .i64 (1 + (n : Int) * 2)) ∧ MO w' v n ∧ Below B w w' := by
  obtain ⟨ao, c, rfl, hr⟩ := h
  rcases hr with rfl | ⟨g, N, f, rfl, hg, hN, hr, _⟩
  · refine (mark0_any ao c 1 w).mono ?_
    rintro e w' ⟨rfl, hb⟩
    exact ⟨by simp, ⟨ao, c, rfl, .inl rfl⟩, hb.mono hB⟩
  · refine (markS_any g n c N f 1 w hn hN ⟨by omega, by omega⟩ hr).mono ?_
    rintro e w' ⟨rfl, rfl⟩
    exact ⟨rfl, ⟨_, _, rfl, .inr ⟨g, N, f, rfl, hN, row_set hr _⟩⟩, Below_setRow (Below.refl _ _) hg _⟩
theorem heldMO (v : Value) (n : Nat) (w : World) (hn : n ≤ 1048576) (h : MO w v n) : Calls Tryd.prog 20 #[v, .int .i64 1] w fun e w' => e = .returned (.int .i64 (1 + (n : Int) * 2)) ∧ Below w.heap.size w w' := by
  obtain ⟨ao, c, rfl, hr⟩ := h
  rcases hr with rfl | ⟨g, N, f, rfl, hN, hr⟩
  · refine (held0_any ao c 1 w).mono ?_
    rintro e w' ⟨rfl, hb⟩
    exact ⟨by simp, hb⟩
  · exact heldS_any g n c N f 1 w hn hN ⟨by omega, by omega⟩ hr
end Go.Proofs.YtflmkhjleifbbaaDoor
namespace Go.Proofs.YtflmkhjleifbbaaDoor
open Go.RowKit
set_option maxRecDepth 100000
set_option linter.unusedVariables false
set_option linter.unusedSimpArgs false
set_option maxRecDepth 100000 in
set_option maxHeartbeats 8000000 in
theorem rc_walk (s : Sh) (rd : Int) (n : Nat) (px py : Nat → Int) (c : Int) (e : ErrE) (w : World) (hE : Errs e w) (hn : n ≤ 1048576)
    (hS : ∀ w, Calls Tryd.prog 16 #[.agg s.row, .int .i64 rd] w fun o w' => ∃ v, o = .returned (.tuple #[v, .int .i64 c]) ∧ SlP w' v n px py w'.heap.size ∧ Below w.heap.size w w')
    (hI : ∀ w, Errs e w → Calls Tryd.prog 17 #[.agg s.row, .int .i64 rd] w fun o w' => ∃ v, o = .returned (.tuple #[v, .int .i64 c]) ∧ PO w' v n px py w.heap.size ∧ Below w.heap.size w w') :
    Calls Tryd.prog 6 #[.agg s.row, .int .i64 rd] w fun o w' => o = .returned (.bool true) ∧ Below w.heap.size w w' := by
  have HT0 := Go.Lib.hid fun w => toSheet_any s w
  have HS := Go.Lib.hid hS
  have HI := Go.Lib.hid hI
  have HE := Go.Lib.hid fun v1 v2 L1 L2 w h1 h2 => eqP_any v1 v2 n L1 L2 px py w hn h1 h2
  have HM := Go.Lib.hid fun v B w hB h => markPO v n px py B w hn hB h
  have HH := Go.Lib.hid fun v w h => heldMO v n w hn h
  have hq : decide ((1 : Int) + (n : Int) * 2 < 0) = false := by simp; omega
  clear hS hI
  have E0 : Hid True := Go.Lib.hid trivial
  have G0 : Hid True := Go.Lib.hid trivial
  have hB : Hid (Below w.heap.size w (w.alloc (.cells (vrow 266 s.at) 31))) := Go.Lib.hid ((Below.refl w.heap.size w).alloc (by simp <;> omega) _)
  have P0 : Hid ((w.alloc (.cells (vrow 266 s.at) 31)).heap[w.heap.size]? = some (.cells (vrow 266 s.at) 31)) := (heap_at _ _ _ (by simp))
  go_enter Tryd.func6, Tryd.ntmps6
  go_wp2_with (first
    | go_skip
    | ((first | (with_reducible refine wlAt 14 rfl ?_) | (with_reducible refine wlAt 21 rfl ?_) | (with_reducible refine wlAt 48 rfl ?_)); refine wpList_ldm 31 (.tmp 2) rfl (by first | exact want_n rfl | exact want_g _ _ _ rfl rfl rfl) (w.heap.size) _ rfl 266 266 s.at _ rw_lsheet size_lsheet P0.out (by omega) ?_; rw [sh_row])
    | (go_at_call 8; (refine (HT0.out _).mono ?_); rintro o w1 ⟨rfl, hb⟩; (try (replace S5 := Go.Lib.hid (S5.out.next hb))); (try (replace P7 := Go.Lib.hid (P7.out.next hb))); (try (replace M7 := Go.Lib.hid (M7.out.next hb))); (try (replace P11 := Go.Lib.hid (P11.out.next hb))); (try (replace HX := Go.Lib.hid (Nat.le_trans HX.out hb.size))); replace P0 := Go.Lib.hid (row_next hb P0.out); replace hB := Go.Lib.hid (below_next hB.out hb); clear hb)
    | (go_at_call 16; (refine (HS.out _).mono ?_); rintro o w3 ⟨v5, rfl, hS5, hb⟩; (try (replace S5 := Go.Lib.hid (S5.out.next hb))); (try (replace P7 := Go.Lib.hid (P7.out.next hb))); (try (replace M7 := Go.Lib.hid (M7.out.next hb))); (try (replace P11 := Go.Lib.hid (P11.out.next hb))); (try (replace HX := Go.Lib.hid (Nat.le_trans HX.out hb.size))); replace P0 := Go.Lib.hid (row_next hb P0.out); replace hB := Go.Lib.hid (below_next hB.out hb); clear hb; have S5 := Go.Lib.hid hS5; clear hS5)
    | (go_at_call 17; replace G0 := G0.out; clear G0; have hPB := row_lt P0.out; (refine (HI.out _ (hE.next hB.out)).mono ?_); rintro o w6 ⟨v7, rfl, hP7, hb⟩; have HX := Go.Lib.hid hb.size; replace S5 := Go.Lib.hid (S5.out.now.next hb); replace P0 := Go.Lib.hid (row_next hb P0.out); replace hB := Go.Lib.hid (below_next hB.out hb); clear hb; have P7 := Go.Lib.hid hP7; clear hP7; (first | generalize w1.heap.size = B7 at P7 S5 HX hPB ⊢ | generalize Wn.heap.size = B7 at P7 S5 HX hPB ⊢))
    | (go_at_call 17; (refine (HI.out _ (hE.next hB.out)).mono ?_); rintro o w7 ⟨v11, rfl, hP11, hb⟩; (try (replace S5 := Go.Lib.hid (S5.out.next hb))); (try (replace P7 := Go.Lib.hid (P7.out.next hb))); (try (replace M7 := Go.Lib.hid (M7.out.next hb))); (try (replace P11 := Go.Lib.hid (P11.out.next hb))); (try (replace HX := Go.Lib.hid (Nat.le_trans HX.out hb.size))); replace P0 := Go.Lib.hid (row_next hb P0.out); replace hB := Go.Lib.hid (below_next hB.out hb); clear hb; have P11 := Go.Lib.hid hP11; clear hP11)
    | (go_at_call 18; replace E0 := E0.out; clear E0; (refine (HE.out _ _ _ _ _ P7.out.slp S5.out).mono ?_); rintro o w8 ⟨rfl, hb⟩; (try (replace S5 := Go.Lib.hid (S5.out.next hb))); (try (replace P7 := Go.Lib.hid (P7.out.next hb))); (try (replace M7 := Go.Lib.hid (M7.out.next hb))); (try (replace P11 := Go.Lib.hid (P11.out.next hb))); (try (replace HX := Go.Lib.hid (Nat.le_trans HX.out hb.size))); replace P0 := Go.Lib.hid (row_next hb P0.out); replace hB := Go.Lib.hid (below_next hB.out hb); clear hb)
    | (go_at_call 18; (refine (HE.out _ _ _ _ _ P11.out.slp S5.out).mono ?_); rintro o w8 ⟨rfl, hb⟩; (try (replace S5 := Go.Lib.hid (S5.out.next hb))); (try (replace P7 := Go.Lib.hid (P7.out.next hb))); (try (replace M7 := Go.Lib.hid (M7.out.next hb))); (try (replace P11 := Go.Lib.hid (P11.out.next hb))); (try (replace HX := Go.Lib.hid (Nat.le_trans HX.out hb.size))); replace P0 := Go.Lib.hid (row_next hb P0.out); replace hB := Go.Lib.hid (below_next hB.out hb); clear hb)
    | (go_at_call 19; (refine (HM.out _ _ _ HX.out P7.out).mono ?_); rintro o w9 ⟨rfl, hM, hb⟩; replace S5 := Go.Lib.hid (S5.out.below hb); replace P0 := Go.Lib.hid (row_below hb (by omega) P0.out); replace hB := Go.Lib.hid (hB.out.trans (hb.mono (by omega))); replace HX := Go.Lib.hid (Nat.le_trans HX.out hb.size); clear P7 hb; have M7 := Go.Lib.hid hM; clear hM)
    | (go_at_call 20; (refine (HH.out _ _ M7.out).mono ?_); rintro o w10 ⟨rfl, hb⟩; (try (replace S5 := Go.Lib.hid (S5.out.next hb))); (try (replace P7 := Go.Lib.hid (P7.out.next hb))); (try (replace M7 := Go.Lib.hid (M7.out.next hb))); (try (replace P11 := Go.Lib.hid (P11.out.next hb))); (try (replace HX := Go.Lib.hid (Nat.le_trans HX.out hb.size))); replace P0 := Go.Lib.hid (row_next hb P0.out); replace hB := Go.Lib.hid (below_next hB.out hb); clear hb))
  go_ret
  exact ⟨rfl, hB.out⟩
theorem progR_out (s : Sh) (L l : List Sp8) (hn : (l.map pix).Nodup) : ∀ (k i : Nat), i ∉ l.map pix → progR s L l k i = -1
  | 0, i, h => (zeroR_val l (fun _ => -1) i).2 h
  | k + 1, i, h => by
    show incR (dryT s L k) l (progR s L l k) i = -1
    rw [(incR_val (dryT s L k) l (progR s L l k) hn).2 i h]
    exact progR_out s L l hn k i h
theorem rg_data2 (s : Sh) (ho : okI s = true) (hi : InkOk s) (hf : s.fit) : ∃ (a c N : Nat) (r : Nat → Int), s.wide = a ∧ s.high = c ∧ (1 ≤ a ∧ a ≤ 8) ∧ (1 ≤ c ∧ c ≤ 8) ∧ (∀ i, -1 ≤ r i ∧ r i ≤ 12800) ∧
    (∀ w, Calls Tryd.prog 22 #[.agg s.row] w fun o w' => o = .returned (.tuple #[.agg (vrow 64 (rgf r)), .int .i64 N]) ∧ Below w.heap.size w w') ∧
    (∀ w, Calls Tryd.prog 29 #[.agg s.row] w fun o w' => o = .returned (.agg (vrow 64 (rgf r))) ∧ Below w.heap.size w w') ∧ (∀ x y, x < 8 → y < 8 → 0 ≤ r (8 * y + x) → x < a ∧ y < c) := by
  obtain ⟨⟨h1, h2, h3, h4⟩, _⟩ := (okI_iff s).1 ho
  obtain ⟨a, ha⟩ : ∃ a : Nat, s.wide = a := ⟨s.wide.toNat, by omega⟩
  obtain ⟨c, hc⟩ : ∃ c : Nat, s.high = c := ⟨s.high.toNat, by omega⟩
  have ha8 : 1 ≤ a ∧ a ≤ 8 := by omega
  have hc8 : 1 ≤ c ∧ c ≤ 8 := by omega
  have hr := rd_in ha hc ha8.2 hc8.2 ho
  obtain ⟨N, hN, hz, hnz⟩ := dt_num hr hi hf
  have hnd : ((dryL s (cellsL a c)).map pix).Nodup := (List.filter_sublist.map pix).nodup hr.nodup
  have e : vrow 64 (rgf (modR s (cellsL a c) N)) = vrow 64 (rgf (progR s (cellsL a c) (dryL s (cellsL a c)) N)) := vrow_ext _ _ _ fun i hi9 => by unfold rgf; rw [prog_mod_end ha hc ha8.2 hc8.2 ho hi hf hz i hi9]
  refine ⟨a, c, N, progR s (cellsL a c) (dryL s (cellsL a c)) N, ha, hc, ha8, hc8, fun i => by have := progR_le s (cellsL a c) (dryL s (cellsL a c)) hnd N i; omega, fun w => ?_, fun w => irings_any s a c N w ha hc ha8 hc8 hf ho hi hN hz hnz, fun x y hx hy h0 => ?_⟩
  · have h := lrings_any s a c N w ha hc ha8 hc8 hf ho hi hN hz hnz
    rw [e] at h
    exact h
  · by_cases hm : 8 * y + x ∈ (dryL s (cellsL a c)).map pix
    · have h1 := ((free_mem ha hc ha8.2 hc8.2 (8 * y + x) (by omega)).1 hm).1
      rw [show ((8 * y + x : Nat) : Int) % 8 = (x : Int) by omega, show ((8 * y + x : Nat) : Int) / 8 = (y : Int) by omega] at h1
      unfold hasB at h1; simp at h1; omega
    · have := progR_out s (cellsL a c) (dryL s (cellsL a c)) hnd N (8 * y + x) hm
      omega
theorem rc_law0 (s : Sh) (rd : Int) (e : ErrE) (w : World) (hE : Errs e w) (hf : s.fit) (hi : okI s = true → InkOk s) : Calls Tryd.prog 6 #[.agg s.row, .int .i64 rd] w fun o w' => o = .returned (.bool true) ∧ Below w.heap.size w w' := by
  cases ho : okI s
  · exact rc_walk s rd 0 (fun _ => 0) (fun _ => 0) 1 e w hE (by omega) (fun w => (specRC_bad s rd 1 (fun _ => 0) (fun _ => 0) w (.inl rfl) (fun b w hs => lrounds_bad s b rd w hs hf ho)).mono fun o w' ⟨v, g1, ⟨ao, cp, g2⟩, g3⟩ => ⟨v, g1, ⟨ao, cp, g2, fun h => absurd h (by omega)⟩, g3⟩) (fun w hE => (implRC_err s rd 1 1 e w hE (fun w hE => ckRounds_bad s rd e w hE ho) (fun w hE => codeOf_1 e w hE)).mono fun o w' ⟨h1, h2⟩ => ⟨_, h1, ⟨none, 0, rfl, .inl rfl⟩, h2⟩)
  · by_cases hr0 : 0 ≤ rd ∧ rd ≤ 500
    · obtain ⟨a, c, N, r, ha, hc, ha8, hc8, hr, HL, HI, hout⟩ := rg_data2 s ho (hi ho) hf
      have hfl : fl (fun x y => rgF r x y == rd) (cellsL 8 8) = fl (fun x y => rgF r x y == rd) (cellsL a c) := fl_cut _ a c ha8.2 hc8.2 fun x y hx hy h => hout x y hx hy (by
        have h2 : rgF r x y = rd := by simpa using h
        unfold rgF at h2; omega)
      have hlen : (fl (fun x y => rgF r x y == rd) (cellsL a c)).length ≤ 1048576 := by
        have h9 := fl_len (fun x y => rgF r x y == rd) (cellsL a c)
        have h8 : (cellsL a c).length = a * c := cellsL_length a c
        have h7 := Nat.mul_le_mul ha8.2 hc8.2
        omega
      have HS := fun w => specRC_ok s rd r N w hr (fun b w hs => lrounds_ok s b rd w hs hf ho hr0) HL
      rw [hfl] at HS
      exact rc_walk s rd _ (lx (fl (fun x y => rgF r x y == rd) (cellsL a c))) (ly (fl (fun x y => rgF r x y == rd) (cellsL a c))) 0 e w hE hlen
        (fun w => (HS w).mono fun o w' ⟨v, g1, g2, g3⟩ => ⟨v, g1, (own_po g2).slp, g3⟩)
        (fun w hE => (implRC_ok s rd r a c e w hE ha hc ha8.2 hc8.2 hr (fun w hE => ckRounds_ok s rd e w hE ho hr0) HI).mono fun o w' ⟨v, g1, g2, g3⟩ => ⟨v, g1, own_po g2, g3⟩)
    · have hk : rd < 0 ∨ 500 < rd := by omega
      exact rc_walk s rd 0 (fun _ => 0) (fun _ => 0) 2 e w hE (by omega) (fun w => (specRC_bad s rd 2 (fun _ => 0) (fun _ => 0) w (.inr rfl) (fun b w hs => lrounds_rng s b rd w hs hf ho hk)).mono fun o w' ⟨v, g1, ⟨ao, cp, g2⟩, g3⟩ => ⟨v, g1, ⟨ao, cp, g2, fun h => absurd h (by omega)⟩, g3⟩) (fun w hE => (implRC_err s rd 2 2 e w hE (fun w hE => by rcases hk with hk | hk; exact ckRounds_neg s rd e w hE ho hk; exact ckRounds_big s rd e w hE ho hk) (fun w hE => codeOf_2 e w hE)).mono fun o w' ⟨h1, h2⟩ => ⟨_, h1, ⟨none, 0, rfl, .inl rfl⟩, h2⟩)
theorem rc_law (s : Sh) (rd : Int) (e : ErrE) (w : World) (hE : Errs e w) (hf : s.fit) : Calls Tryd.prog 6 #[.agg s.row, .int .i64 rd] w fun o w' => o = .returned (.bool true) ∧ Below w.heap.size w w' := by
  rw [← norm_row s]
  exact rc_law0 s.norm rd e w hE (norm_fit hf) inkOk_norm
end Go.Proofs.YtflmkhjleifbbaaDoor
