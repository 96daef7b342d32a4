import Derived.Deep.RegionHeld3
import Derived.Test.YtgbhchmpeioaiaaDoorGround
import Derived.Test.YtgbhchmpeioaiaaDoorIgive
namespace Go.Proofs.YtgbhchmpeioaiaaDoor
open Go.RowKit
set_option maxRecDepth 100000
set_option linter.unusedVariables false
set_option linter.unusedSimpArgs false
theorem pvals_take (s : Sh) (gl : Nat) : ∀ (l : List Sp8) (m i : Nat) (hi : i < l.length), (pvals s gl m l)[i * 3]? = some (.int .i8 (l[i]'hi).1.1) ∧ (pvals s gl m l)[i * 3 + 1]? = some (.int .i8 (l[i]'hi).1.2) ∧ (pvals s gl m l)[i * 3 + 2]? = some (besV gl (m + (nbAll s (l.take i)).length) (m + (nbAll s (l.take i)).length + (nbs s (l[i]'hi).1.1 (l[i]'hi).1.2 4).length))
  | [], _, _, hi => by simp at hi
  | p :: l, m, 0, hi => by
    show ([_, _, _] ++ _)[0]? = _ ∧ ([_, _, _] ++ _)[1]? = _ ∧ ([_, _, _] ++ _)[2]? = _
    simp [nbAll]
  | p :: l, m, i + 1, hi => by
    obtain ⟨h1, h2, h3⟩ := pvals_take s gl l (m + (nbs s p.1.1 p.1.2 4).length) i (by simpa using hi)
    have e : pvals s gl m (p :: l) = [.int .i8 p.1.1, .int .i8 p.1.2, besV gl m (m + (nbs s p.1.1 p.1.2 4).length)] ++ pvals s gl (m + (nbs s p.1.1 p.1.2 4).length) l := rfl
    have em : m + (nbs s p.1.1 p.1.2 4).length + (nbAll s (l.take i)).length = m + (nbAll s ((p :: l).take (i + 1))).length := by simp [nbAll]; omega
    rw [em] at h3
    rw [e, show (i + 1) * 3 = i * 3 + 3 by omega, show i * 3 + 3 + 1 = i * 3 + 1 + 3 by omega, show i * 3 + 3 + 2 = i * 3 + 2 + 3 by omega]
    exact ⟨h1, h2, h3⟩
theorem own_row_of {W : World} {base g cap size n : Nat} {t : TypeId} {xs : List Value} (h : W.ownsRow base t size (.slice (some ⟨g, 0, none⟩) n cap) n xs) : ∃ f : Nat → Value, W.heap[g]? = some (.cells (vrow (cap * size) f) t) ∧ n ≤ cap ∧ ∀ (j : Nat) (u : Value), j < n * size → xs[j]? = some u → f j = u := by
  rcases h.2 with ⟨hv, _⟩ | ⟨g', cap', cur, hv, _, hg, hcap, _, hsz, ht⟩
  · cases hv
  · simp only [Value.slice.injEq, Option.some.injEq, Addr.mk.injEq] at hv
    obtain ⟨⟨rfl, _⟩, _, rfl⟩ := hv
    refine ⟨fun i => cur.getD i undef, ?_, hcap, ?_⟩
    · rw [hg]
      congr 2
      apply Array.ext_getElem?
      intro i
      by_cases hi : i < cap * size
      · rw [vrow_get _ _ _ hi, Array.getD_eq_getD_getElem?, Array.getElem?_eq_getElem (by omega)]; rfl
      · rw [vrow_none _ _ _ hi, Array.getElem?_eq_none (by omega)]
    · intro j u hj hu
      show cur.getD j undef = u
      rw [← ht, List.getElem?_take, if_pos hj] at hu
      rw [Array.getD_eq_getD_getElem?]
      simp only [Array.getElem?_toList] at hu
      rw [hu]; rfl
theorem nbAll_get (s : Sh) : ∀ (l : List Sp8) (i : Nat) (hi : i < l.length) (j : Nat) (hj : j < (nbs s (l[i]'hi).1.1 (l[i]'hi).1.2 4).length), (nbAll s l)[(nbAll s (l.take i)).length + j]? = some ((nbs s (l[i]'hi).1.1 (l[i]'hi).1.2 4)[j]'hj)
  | [], _, hi, _, _ => by simp at hi
  | p :: l, 0, hi, j, hj => by
    have hj' : j < (nbs s p.1.1 p.1.2 4).length := hj
    simp only [nbAll, List.take_zero, List.flatMap_nil, List.length_nil, Nat.zero_add, List.flatMap_cons]
    rw [List.getElem?_append_left hj', List.getElem?_eq_getElem hj']
    rfl
  | p :: l, i + 1, hi, j, hj => by
    have ih := nbAll_get s l i (by simpa using hi) j hj
    simp only [nbAll, List.take_succ_cons, List.flatMap_cons, List.length_append] at ih ⊢
    rw [List.getElem?_append_right (by omega), show (nbs s p.1.1 p.1.2 4).length + (List.flatMap (fun p => nbs s p.1.1 p.1.2 4) (l.take i)).length + j - (nbs s p.1.1 p.1.2 4).length = (List.flatMap (fun p => nbs s p.1.1 p.1.2 4) (l.take i)).length + j by omega]
    exact ih
/-- what the ground's blocks hold -/
structure GRow (W : World) (gp gl : Nat) (s : Sh) (l : List Sp8) (f f2 : Nat → Value) : Prop where
  pl : W.heap[gp]? = some (.cells (vrow (64 * 3) f) 139)
  li : W.heap[gl]? = some (.cells (vrow (256 * 2) f2) 40)
  hl : l.length ≤ 64
  at_ : ∀ (i : Nat) (hi : i < l.length), vrow 3 (fun q => f (i * 3 + q)) = #[.int .i8 (l[i]'hi).1.1, .int .i8 (l[i]'hi).1.2, besV gl (nbAll s (l.take i)).length ((nbAll s (l.take i)).length + (nbs s (l[i]'hi).1.1 (l[i]'hi).1.2 4).length)]
  nb : ∀ (i : Nat) (p : Sp8), l[i]? = some p → ∀ (j : Nat) (q : Sp8), (nbs s p.1.1 p.1.2 4)[j]? = some q → (nbAll s (l.take i)).length + j < 256 ∧ vrow 2 (fun r => f2 (((nbAll s (l.take i)).length + j) * 2 + r)) = #[.int .i8 q.1.1, .int .i8 q.1.2]
theorem GroundM.rows {W : World} {base gp gl : Nat} {s : Sh} {l : List Sp8} (h : GroundM W base gp gl s l) : ∃ f f2, GRow W gp gl s l f f2 := by
  obtain ⟨f, hf, hfc, hfv⟩ := own_row_of h.places
  obtain ⟨f2, hf2, hfc2, hfv2⟩ := own_row_of h.list
  refine ⟨f, f2, hf, hf2, hfc, ?_, ?_⟩
  · intro i hi
    obtain ⟨h1, h2, h3⟩ := pvals_take s gl l 0 i hi
    rw [Nat.zero_add] at h3
    refine vrow_ext 3 _ (fun q => (#[.int .i8 (l[i]'hi).1.1, .int .i8 (l[i]'hi).1.2, besV gl (nbAll s (l.take i)).length ((nbAll s (l.take i)).length + (nbs s (l[i]'hi).1.1 (l[i]'hi).1.2 4).length)] : Array Value).getD q undef) fun q hq => ?_
    have : q = 0 ∨ q = 1 ∨ q = 2 := by omega
    rcases this with rfl | rfl | rfl
    · exact hfv _ _ (by omega) h1
    · exact hfv _ _ (by omega) h2
    · exact hfv _ _ (by omega) h3
  · intro i p hp j q hq
    obtain ⟨hi, rfl⟩ := List.getElem?_eq_some_iff.1 hp
    obtain ⟨hj, rfl⟩ := List.getElem?_eq_some_iff.1 hq
    have hg := nbAll_get s l i hi j hj
    have hlt : (nbAll s (l.take i)).length + j < (nbAll s l).length := (List.getElem?_eq_some_iff.1 hg).1
    have hge := (List.getElem?_eq_some_iff.1 hg).2
    obtain ⟨v1, v2⟩ := vals_get (nbAll s l) _ hlt
    rw [hge] at v1 v2
    refine ⟨by omega, ?_⟩
    refine vrow_ext 2 _ (fun q => (#[.int .i8 ((nbs s (l[i]'hi).1.1 (l[i]'hi).1.2 4)[j]'hj).1.1, .int .i8 ((nbs s (l[i]'hi).1.1 (l[i]'hi).1.2 4)[j]'hj).1.2] : Array Value).getD q undef) fun q hq => ?_
    have : q = 0 ∨ q = 1 := by omega
    rcases this with rfl | rfl
    · exact hfv2 _ _ (by omega) (by rw [Nat.add_zero, Nat.mul_comm]; exact v1)
    · exact hfv2 _ _ (by omega) (by rw [Nat.mul_comm]; exact v2)
theorem run_filter (s : Sh) : ∀ (l : List Sp8) (T : Sh × Int), (dryL s l).foldl (cellRun s) T = l.foldl (cellRun s) T
  | [], _ => rfl
  | p :: l, T => by
    unfold dryL
    rw [List.filter_cons]
    cases h : waxB s p.1.1 p.1.2
    · rw [if_pos (by simp)]; exact run_filter s l _
    · rw [if_neg (by simp), List.foldl_cons, show cellRun s T p = T by unfold cellRun; rw [h, if_pos rfl]]; exact run_filter s l T
theorem grown_trans {A B C : World} {row : Option Nat} (h : A.grownBy B row) (g : B.grownBy C row) : A.grownBy C row := ⟨g.os.trans h.os, g.tape.trans h.tape, g.output.trans h.output, Nat.le_trans h.size g.size, fun k hk hne => (g.block k (Nat.lt_of_lt_of_le hk h.size) hne).trans (h.block k hk hne)⟩
theorem bes_slice (gl m k : Nat) : ∃ ad, besV gl m (m + k) = .slice (some ⟨gl, ad, none⟩) k k ∧ (0 < k → ad = m * 2) := by
  refine ⟨if m + k = m then 0 else m * 2, ?_, fun h => if_neg (by omega)⟩
  unfold besV
  rw [Nat.add_sub_cancel_left]
  split <;> rfl
def plf (x y : Int) (b : Value) : Nat → Value := fun q => if q = 0 then .int .i8 x else if q = 1 then .int .i8 y else b
theorem plf_0 (x y : Int) (b : Value) : plf x y b 0 = .int .i8 x := rfl
theorem plf_1 (x y : Int) (b : Value) : plf x y b 1 = .int .i8 y := rfl
theorem plf_2 (x y : Int) (b : Value) : plf x y b 2 = b := rfl
theorem plf_spot (x y : Int) (b : Value) : vrow 2 (fun q => plf x y b (0 + q)) = vrow 2 (spAt x y) := rfl
theorem rw_plc : (Tryd.prog.underlying 139).map (·.isRow) = some true := by kernel_rfl
theorem size_plc : (Tryd.prog.info? 139).map (·.size) = some 3 := by kernel_rfl
theorem zero_plc : ∀ w, (zeroValue 139).run Tryd.prog w = .ok (.agg (vrow 3 (plf 0 0 (.slice none 0 0)))) w := fun _ => by kernel_rfl
theorem plf_one (x y : Int) (b : Value) (hb : b.oneCell' = true) (i : Nat) : (plf x y b i).oneCell' = true := by
  unfold plf
  split
  · rfl
  · split
    · rfl
    · exact hb
set_option maxHeartbeats 8000000 in
theorem irun_any (s T : Sh) (l : List Sp8) (mt gp gl : Nat) (f f2 : Nat → Value) (w : World) (hok : okI s = true) (hG : GRow w gp gl s l f f2) (ht : w.heap[mt]? = some (.cells (vrow 266 T.at) 35)) (hgd : Gd s T) (hfree : ∀ p ∈ l, hasB s p.1.1 p.1.2 = true ∧ waxB s p.1.1 p.1.2 = false) :
    Calls Tryd.prog 80 #[.pointer (some ⟨mt, 0, none⟩), .slice (some ⟨gp, 0, none⟩) l.length 64] w fun e w' => e = .returned (.int .i64 (l.foldl (cellRun s) (T, 0)).2) ∧ w.grownBy w' (some mt) ∧ w'.heap[mt]? = some (.cells (vrow 266 (l.foldl (cellRun s) (T, 0)).1.at) 35) := by
  obtain ⟨hpl, hli, hl64, hat, hnb⟩ := hG
  have hmg : mt ≠ gp := fun e => by rw [e, hpl] at ht; injection ht with e; injection e with e1 e2; revert e2; decide
  have hml : mt ≠ gl := fun e => by rw [e, hli] at ht; injection ht with e; injection e with e1 e2; revert e2; decide
  have ngm := row_lt ht
  have ngp := row_lt hpl
  have ngl := row_lt hli
  have HAT := Go.Lib.hid hat; have HNB := Go.Lib.hid hnb; have HFR := Go.Lib.hid hfree; have HOK := Go.Lib.hid hok
  have HGD := Go.Lib.hid fun k => runS_gd hok (l.take k) (fun p hp => (hfree p (List.mem_of_mem_take hp)).1) (T, 0) hgd
  clear hat hnb hfree hok hgd
  have zp := zero_plc
  have zs := zero_spot
  go_enter Tryd.func80, Tryd.ntmps80
  go_wp2
  obtain ⟨wo, hwo⟩ : ∃ wo : World, wo = w := ⟨_, rfl⟩
  have hG0 : w.grownBy wo (some mt) := by rw [hwo]; exact grown_refl _ _
  have ht0 : wo.heap[mt]? = some (.cells (vrow 266 T.at) 35) := by rw [hwo]; exact ht
  have hpl0 : wo.heap[gp]? = some (.cells (vrow (64 * 3) f) 139) := by rw [hwo]; exact hpl
  have hli0 : wo.heap[gl]? = some (.cells (vrow (256 * 2) f2) 40) := by rw [hwo]; exact hli
  first | rw [← hwo] | skip
  clear ht hpl hli
  go_loopw [5, 12] (fun nv kv wr => ∃ k : Nat, k ≤ l.length ∧ kv = .int .i64 k ∧ nv = .int .i64 ((l.take k).foldl (cellRun s) (T, 0)).2 ∧ wr.heap[mt]? = some (.cells (vrow 266 ((l.take k).foldl (cellRun s) (T, 0)).1.at) 35) ∧ wr.heap[gp]? = some (.cells (vrow (64 * 3) f) 139) ∧ wr.heap[gl]? = some (.cells (vrow (256 * 2) f2) 40) ∧ w.grownBy wr (some mt)) (fun _ kv _ => l.length - (intOf kv).toNat)
  case atStart => exact ⟨0, by omega, rfl, rfl, ht0, hpl0, hli0, hG0⟩
  case round =>
    clear ht0 hpl0 hli0 hG0
    obtain ⟨k, hk, rfl, rfl, SB, PL, LI, hG⟩ := hrel
    obtain ⟨hgd, c1, c2⟩ := HGD.out k
    have hlen : (l.take k).length ≤ 64 := by rw [List.length_take]; omega
    replace SB := Go.Lib.hid SB; replace PL := Go.Lib.hid PL; replace LI := Go.Lib.hid LI; replace hG := Go.Lib.hid hG
    by_cases hlt : k < l.length
    · have hst : (l.take (k + 1)).foldl (cellRun s) (T, 0) = cellRun s ((l.take k).foldl (cellRun s) (T, 0)) (l[k]'hlt) := by
        rw [List.take_succ_eq_append_getElem hlt, List.foldl_append]; rfl
      obtain ⟨hbp, hwx⟩ := HFR.out _ (List.getElem_mem hlt)
      have HRP := HAT.out k hlt
      have hke := List.getElem?_eq_getElem hlt
      obtain ⟨⟨⟨x, y⟩, hx, hy⟩, hp⟩ : ∃ p, l[k]'hlt = p := ⟨_, rfl⟩
      rw [hp] at hst hbp hwx HRP hke
      have HRN := HNB.out k _ hke
      clear hp hke
      replace hx : x < 8 := hx
      replace hy : y < 8 := hy
      replace hbp : hasB s x y = true := hbp
      replace hwx : waxB s x y = false := hwx
      have f1 : freeB s x y = true := by unfold freeB; rw [hbp, Int.toNat_natCast, Int.toNat_natCast, hwx]; rfl
      have hst2 : ∀ TN, cellRun s TN ⟨(x, y), hx, hy⟩ = if waxB s x y then TN else (nbs s x y 4).foldl (gv x y) TN := fun _ => rfl
      rw [hst2, hwx, if_neg (by simp)] at hst
      clear hst2
      change Gd s ((l.take k).foldl (cellRun s) (T, 0)).1 at hgd
      change (0 : Int) ≤ ((l.take k).foldl (cellRun s) (T, 0)).2 at c1
      change ((l.take k).foldl (cellRun s) (T, 0)).2 ≤ (0 : Int) + 4 * ((l.take k).length : Int) at c2
      generalize (l.take k).foldl (cellRun s) (T, 0) = TN at *
      obtain ⟨T1, n⟩ := TN
      change Gd s T1 at hgd
      change (0 : Int) ≤ n at c1
      change n ≤ (0 : Int) + 4 * ((l.take k).length : Int) at c2
      change vrow 3 (fun q => f (k * 3 + q)) = #[.int .i8 (x : Int), .int .i8 (y : Int), besV gl (nbAll s (l.take k)).length ((nbAll s (l.take k)).length + (nbs s x y 4).length)] at HRP
      generalize (nbAll s (l.take k)).length = m at *
      have hML : (nbs s x y 4).length ≤ 4 := nbs_len s x y 4
      have hMM : ∀ q ∈ nbs s x y 4, freeB s q.1.1 q.1.2 = true ∧ 8 * y + x ≠ 8 * q.1.2 + q.1.1 := fun q hq => nbs_mem HOK.out hx hy 4 (Nat.le_refl _) hq
      have HFD := Go.Lib.hid fun j => fold_gd HOK.out hx hy f1 ((nbs s x y 4).take j) (fun q hq => List.mem_of_mem_take hq) (T1, n) hgd
      generalize nbs s x y 4 = M at *
      obtain ⟨k0, hk0⟩ : ∃ k0, M.length = k0 := ⟨_, rfl⟩
      rw [hk0] at HRP
      have HRPv : vrow 3 (fun q => f (k * 3 + q)) = vrow 3 (plf x y (besV gl m (m + k0))) := HRP
      have HRQ := Go.Lib.hid HRPv
      have HK0 := Go.Lib.hid hk0
      rw [hk0] at hML
      clear HRP HRPv hk0
      have hkI : (k : Int) < (l.length : Int) := by omega
      have hk00 : (0 : Int) ≤ (k : Int) := by omega
      have hkd : decide ((k : Int) < (l.length : Int)) = true := by simpa using hkI
      have hbz : ∀ i, (plf x y (besV gl m (m + k0)) i).oneCell' = true := plf_one _ _ _ rfl
      obtain ⟨ad, hbv, had⟩ := bes_slice gl m k0
      have HBV := Go.Lib.hid hbv
      have HAD := Go.Lib.hid had
      clear hbv had
      go_wp2_with (first
        | go_skip
        | (with_reducible refine wlAt 15 rfl ?_; refine wpList_loadmid rfl 139 (.tmp 14) rfl gp (k * 3) rfl (64 * 3) 3 f 139 _ Tryd.underlying139 rfl size_plc PL.out (by omega) ?_; rw [HRQ.out])
        | (with_reducible refine wlOp (.store 139 (.tmp 7) (.tmp 15)) rfl ?_; refine wpList_storeall rfl 139 (.tmp 7) (.tmp 15) rfl _ rfl 3 (plf 0 0 (.slice none 0 0)) (plf x y (besV gl m (m + k0))) rfl 139 size_plc (heap_at _ _ _ rfl) (fun i _ => hbz i) ?_; rw [setRow_at _ _ _ _ _ rfl]; have PX := Go.Lib.hid (heap_at wr (.cells (vrow 3 (plf x y (besV gl m (m + k0)))) 139) _ rfl); have hgs := hG.out.size; replace SB := Go.Lib.hid (heap_past _ (.cells (vrow 3 (plf x y (besV gl m (m + k0)))) 139) _ _ (row_lt SB.out) SB.out); replace PL := Go.Lib.hid (heap_past _ (.cells (vrow 3 (plf x y (besV gl m (m + k0)))) 139) _ _ (row_lt PL.out) PL.out); replace LI := Go.Lib.hid (heap_past _ (.cells (vrow 3 (plf x y (besV gl m (m + k0)))) 139) _ _ (row_lt LI.out) LI.out); replace hG := Go.Lib.hid (grown_alloc hG.out (.cells (vrow 3 (plf x y (besV gl m (m + k0)))) 139)); generalize wr.heap.size = pbx at PX hgs ⊢; generalize wr.alloc _ = w2 at SB PL LI PX hG ⊢)
        | (with_reducible refine wlAt 17 rfl ?_; refine wpList_load1 rfl 80 (.tmp 16) rfl pbx 2 rfl 3 (plf x y (besV gl m (m + k0))) _ _ Tryd.underlying80 rfl PX.out (by omega) ?_; rw [plf_2, HBV.out]))
      obtain ⟨wo2, hwo2⟩ : ∃ wo : World, wo = w2 := ⟨_, rfl⟩
      rw [← hwo2] at SB PL LI PX hG ⊢
      clear hwo2 w2
      go_loopw [5, 19] (fun nv jv wr => ∃ j : Nat, j ≤ k0 ∧ jv = .int .i64 j ∧ nv = .int .i64 ((M.take j).foldl (gv x y) (T1, n)).2 ∧ wr.heap[mt]? = some (.cells (vrow 266 ((M.take j).foldl (gv x y) (T1, n)).1.at) 35) ∧ wr.heap[gp]? = some (.cells (vrow (64 * 3) f) 139) ∧ wr.heap[gl]? = some (.cells (vrow (256 * 2) f2) 40) ∧ wr.heap[pbx]? = some (.cells (vrow 3 (plf x y (besV gl m (m + k0)))) 139) ∧ w.grownBy wr (some mt)) (fun _ jv _ => k0 - (intOf jv).toNat)
      case atStart => exact ⟨0, by omega, rfl, rfl, SB.out, PL.out, LI.out, PX.out, hG.out⟩
      case round =>
        clear SB PL LI PX hG
        obtain ⟨j, hj, rfl, rfl, SB, PL, LI, PX, hG⟩ := hrel
        obtain ⟨hgd2, e1, e2⟩ := HFD.out j
        have hlenj : (M.take j).length ≤ 4 := by rw [List.length_take]; have := HK0.out; omega
        replace SB := Go.Lib.hid SB; replace PL := Go.Lib.hid PL; replace LI := Go.Lib.hid LI; replace PX := Go.Lib.hid PX; replace hG := Go.Lib.hid hG
        by_cases hlj : j < k0
        · have hljM : j < M.length := by have := HK0.out; omega
          have hs2 : (M.take (j + 1)).foldl (gv x y) (T1, n) = gv x y ((M.take j).foldl (gv x y) (T1, n)) (M[j]'hljM) := by
            rw [List.take_succ_eq_append_getElem hljM, List.foldl_append]; rfl
          obtain rfl := HAD.out (by omega)
          have hq := hMM _ (List.getElem_mem hljM)
          have hje := List.getElem?_eq_getElem hljM
          obtain ⟨⟨⟨u, v⟩, hu, hv⟩, hp⟩ : ∃ p, M[j]'hljM = p := ⟨_, rfl⟩
          rw [hp] at hs2 hq hje
          obtain ⟨hmj, HR2⟩ := HRN j _ hje
          clear hp hje
          replace hu : u < 8 := hu
          replace hv : v < 8 := hv
          obtain ⟨f2q, hne⟩ : freeB s u v = true ∧ 8 * y + x ≠ 8 * v + u := hq
          replace HR2 : vrow 2 (fun r => f2 ((m + j) * 2 + r)) = vrow 2 (spAt u v) := HR2
          rw [Nat.add_mul] at HR2
          replace HR2 := Go.Lib.hid HR2
          generalize (M.take j).foldl (gv x y) (T1, n) = TM at *
          obtain ⟨U, mm⟩ := TM
          change Gd s U at hgd2
          change n ≤ mm at e1
          change mm ≤ n + ((M.take j).length : Int) at e2
          have hs3 : gv x y (U, mm) ⟨(u, v), hu, hv⟩ = if 2 ≤ U.wet (8 * y + x) - U.wet (8 * v + u) then (giveS U x y u v, mm + 1) else (U, mm) := rfl
          rw [hs3] at hs2
          clear hs3
          obtain ⟨⟨b1, b2⟩, _⟩ := ok_bounds U hgd2.ok x y hx hy
          obtain ⟨⟨b3, b4⟩, _⟩ := ok_bounds U hgd2.ok u v hu hv
          have HGV := Go.Lib.hid fun w0 (ht : w0.heap[mt]? = some (.cells (vrow 266 U.at) 35)) (h2 : 2 ≤ U.wet (8 * y + x) - U.wet (8 * v + u)) => igiveC U mt x y u v w0 ht hx hy hu hv hne hgd2.ink ⟨by omega, b2⟩ ⟨b3, by omega⟩
          obtain ⟨wa, hwa⟩ : ∃ wa, U.wet (8 * y + x) = wa := ⟨_, rfl⟩
          obtain ⟨wb, hwb⟩ : ∃ wb, U.wet (8 * v + u) = wb := ⟨_, rfl⟩
          rw [hwa, hwb] at hs2 HGV
          rw [hwa] at b1 b2
          rw [hwb] at b3 b4
          have HWA := Go.Lib.hid hwa; have HWB := Go.Lib.hid hwb
          clear hwa hwb
          have hxI : (x : Int) < 8 := by omega
          have hyI : (y : Int) < 8 := by omega
          have huI : (u : Int) < 8 := by omega
          have hvI : (v : Int) < 8 := by omega
          have hjI : (j : Int) < (k0 : Int) := by omega
          have hj0 : (0 : Int) ≤ (j : Int) := by omega
          have hjd : decide ((j : Int) < (k0 : Int)) = true := by simpa using hjI
          have hgsz := hG.out.size
          have hnx : w.heap.size ≤ wr.heap.size := hgsz
          by_cases hge : 2 ≤ wa - wb
          · have hdg : decide (2 ≤ wa - wb) = true := by simpa using hge
            rw [if_pos hge] at hs2
            go_wp2_with (first
              | go_skip
              | (with_reducible refine wlAt 22 rfl ?_; refine wpList_loadmid rfl 40 (.tmp 21) rfl gl (m * 2 + j * 2) rfl (256 * 2) 2 f2 40 _ Tryd.underlying40 rfl size_spot LI.out (by omega) ?_; rw [HR2.out])
              | (with_reducible refine wlOp (.store 40 (.tmp 9) (.tmp 22)) rfl ?_; refine wpList_storeall rfl 40 (.tmp 9) (.tmp 22) rfl _ rfl 2 (spAt 0 0) (spAt u v) rfl 40 size_spot (heap_at _ _ _ rfl) (fun i _ => spAt_one _ _ i) ?_; rw [setRow_at _ _ _ _ _ rfl]; have NX := Go.Lib.hid (heap_at wr (.cells (vrow 2 (spAt u v)) 40) _ rfl); replace SB := Go.Lib.hid (heap_past _ (.cells (vrow 2 (spAt u v)) 40) _ _ (row_lt SB.out) SB.out); replace PL := Go.Lib.hid (heap_past _ (.cells (vrow 2 (spAt u v)) 40) _ _ (row_lt PL.out) PL.out); replace LI := Go.Lib.hid (heap_past _ (.cells (vrow 2 (spAt u v)) 40) _ _ (row_lt LI.out) LI.out); replace PX := Go.Lib.hid (heap_past _ (.cells (vrow 2 (spAt u v)) 40) _ _ (row_lt PX.out) PX.out); replace hG := Go.Lib.hid (grown_alloc hG.out (.cells (vrow 2 (spAt u v)) 40)); generalize wr.heap.size = nb at NX hnx hgsz ⊢; generalize wr.alloc _ = w3 at SB PL LI PX NX hG ⊢))
            refine wp_region_still_lit (by kernel_rfl) (by kernel_rfl) ?_
            simp only [World.drew_eq]
            repeat (first
              | (refine wpStill_load1 rfl 22 (.tmp 25) rfl pbx (1) rfl (3) (plf x y (besV gl m (m + k0))) _ _ Tryd.underlying22 rfl PX.out (by omega) ?_; rw [plf_1]; simp only [Act.put, List.setIfInBounds_toArray, List.set_cons_succ, List.set_cons_zero])
              | (refine wpStill_load1 rfl 22 (.tmp 28) rfl pbx (0) rfl (3) (plf x y (besV gl m (m + k0))) _ _ Tryd.underlying22 rfl PX.out (by omega) ?_; rw [plf_0]; simp only [Act.put, List.setIfInBounds_toArray, List.set_cons_succ, List.set_cons_zero])
              | (refine wpStill_load1 rfl 23 (.tmp 33) rfl mt (2 + y * 8 + x) rfl (266) (U.at) _ _ Tryd.underlying23 rfl SB.out (by omega) ?_; rw [Sh.at_wet1 _ _ (8 * y + x) (by omega) (by omega), HWA.out]; simp only [Act.put, List.setIfInBounds_toArray, List.set_cons_succ, List.set_cons_zero])
              | (refine wpStill_load1 rfl 22 (.tmp 36) rfl nb (1) rfl (2) (spAt u v) _ _ Tryd.underlying22 rfl NX.out (by omega) ?_; rw [spAt_1]; simp only [Act.put, List.setIfInBounds_toArray, List.set_cons_succ, List.set_cons_zero])
              | (refine wpStill_load1 rfl 22 (.tmp 38) rfl nb (0) rfl (2) (spAt u v) _ _ Tryd.underlying22 rfl NX.out (by omega) ?_; rw [spAt_0]; simp only [Act.put, List.setIfInBounds_toArray, List.set_cons_succ, List.set_cons_zero])
              | (refine wpStill_load1 rfl 23 (.tmp 43) rfl mt (2 + v * 8 + u) rfl (266) (U.at) _ _ Tryd.underlying23 rfl SB.out (by omega) ?_; rw [Sh.at_wet1 _ _ (8 * v + u) (by omega) (by omega), HWB.out]; simp only [Act.put, List.setIfInBounds_toArray, List.set_cons_succ, List.set_cons_zero])
              | still_step
              | (refine wpStill_step (fun K hK => ?_); go_simp; simp only [hxI, hyI, huI, hvI, if_true]; go_simp; refine hK _ ?_; clear hK K))
            refine wpStill_nil ?_
            rw [IntWalk.i16_in (wa - wb) (by omega)]
            have SB2 := drew_row SB.out
            have PL2 := drew_row PL.out
            have LI2 := drew_row LI.out
            have PX2 := drew_row PX.out
            have NX2 := drew_row NX.out
            have hG2 := grown_drew hG.out
            clear SB PL LI PX NX hG
            generalize World.drew w3 = w4 at SB2 PL2 LI2 PX2 NX2 hG2 ⊢
            have SB := Go.Lib.hid SB2; have PL := Go.Lib.hid PL2; have LI := Go.Lib.hid LI2; have PX := Go.Lib.hid PX2; have NX := Go.Lib.hid NX2; have hG := Go.Lib.hid hG2
            clear SB2 PL2 LI2 PX2 NX2 hG2
            go_wp2_with (first
              | go_skip
              | (with_reducible refine wlAt 49 rfl ?_; refine wpList_loadmid rfl 40 (.tmp 48) rfl pbx 0 rfl 3 2 (plf x y (besV gl m (m + k0))) 139 _ Tryd.underlying40 rfl size_spot PX.out (by omega) ?_; rw [plf_spot])
              | (with_reducible refine wlAt 50 rfl ?_; refine wpList_loadall rfl 40 (.tmp 9) rfl nb rfl 2 (spAt u v) 40 _ Tryd.underlying40 rfl size_spot NX.out ?_)
              | (go_at_call 87; (refine (HGV.out _ SB.out hge).mono ?_; rintro e w5 ⟨⟨rr, rfl⟩, hg, hP1⟩; have m1 := row_lt PL.out; have m2 := row_lt LI.out; have m3 := row_lt PX.out; replace PL := Go.Lib.hid ((hg.block _ m1 (by simp <;> omega)).trans PL.out); replace LI := Go.Lib.hid ((hg.block _ m2 (by simp <;> omega)).trans LI.out); replace PX := Go.Lib.hid ((hg.block _ m3 (by simp <;> omega)).trans PX.out); replace SB := Go.Lib.hid hP1; replace hG := Go.Lib.hid (grown_trans hG.out hg); clear hg hP1 m1 m2 m3)))
            go_roundw
            case rel => exact ⟨j + 1, by omega, by go_num, by rw [hs2], by rw [hs2]; exact SB.out, PL.out, LI.out, PX.out, hG.out⟩
            case measure => simp [intOf]; omega
          · have hdg : decide (2 ≤ wa - wb) = false := by simpa using hge
            rw [if_neg hge] at hs2
            go_wp2_with (first
              | go_skip
              | (with_reducible refine wlAt 22 rfl ?_; refine wpList_loadmid rfl 40 (.tmp 21) rfl gl (m * 2 + j * 2) rfl (256 * 2) 2 f2 40 _ Tryd.underlying40 rfl size_spot LI.out (by omega) ?_; rw [HR2.out])
              | (with_reducible refine wlOp (.store 40 (.tmp 9) (.tmp 22)) rfl ?_; refine wpList_storeall rfl 40 (.tmp 9) (.tmp 22) rfl _ rfl 2 (spAt 0 0) (spAt u v) rfl 40 size_spot (heap_at _ _ _ rfl) (fun i _ => spAt_one _ _ i) ?_; rw [setRow_at _ _ _ _ _ rfl]; have NX := Go.Lib.hid (heap_at wr (.cells (vrow 2 (spAt u v)) 40) _ rfl); replace SB := Go.Lib.hid (heap_past _ (.cells (vrow 2 (spAt u v)) 40) _ _ (row_lt SB.out) SB.out); replace PL := Go.Lib.hid (heap_past _ (.cells (vrow 2 (spAt u v)) 40) _ _ (row_lt PL.out) PL.out); replace LI := Go.Lib.hid (heap_past _ (.cells (vrow 2 (spAt u v)) 40) _ _ (row_lt LI.out) LI.out); replace PX := Go.Lib.hid (heap_past _ (.cells (vrow 2 (spAt u v)) 40) _ _ (row_lt PX.out) PX.out); replace hG := Go.Lib.hid (grown_alloc hG.out (.cells (vrow 2 (spAt u v)) 40)); generalize wr.heap.size = nb at NX hnx hgsz ⊢; generalize wr.alloc _ = w3 at SB PL LI PX NX hG ⊢))
            refine wp_region_still_lit (by kernel_rfl) (by kernel_rfl) ?_
            simp only [World.drew_eq]
            repeat (first
              | (refine wpStill_load1 rfl 22 (.tmp 25) rfl pbx (1) rfl (3) (plf x y (besV gl m (m + k0))) _ _ Tryd.underlying22 rfl PX.out (by omega) ?_; rw [plf_1]; simp only [Act.put, List.setIfInBounds_toArray, List.set_cons_succ, List.set_cons_zero])
              | (refine wpStill_load1 rfl 22 (.tmp 28) rfl pbx (0) rfl (3) (plf x y (besV gl m (m + k0))) _ _ Tryd.underlying22 rfl PX.out (by omega) ?_; rw [plf_0]; simp only [Act.put, List.setIfInBounds_toArray, List.set_cons_succ, List.set_cons_zero])
              | (refine wpStill_load1 rfl 23 (.tmp 33) rfl mt (2 + y * 8 + x) rfl (266) (U.at) _ _ Tryd.underlying23 rfl SB.out (by omega) ?_; rw [Sh.at_wet1 _ _ (8 * y + x) (by omega) (by omega), HWA.out]; simp only [Act.put, List.setIfInBounds_toArray, List.set_cons_succ, List.set_cons_zero])
              | (refine wpStill_load1 rfl 22 (.tmp 36) rfl nb (1) rfl (2) (spAt u v) _ _ Tryd.underlying22 rfl NX.out (by omega) ?_; rw [spAt_1]; simp only [Act.put, List.setIfInBounds_toArray, List.set_cons_succ, List.set_cons_zero])
              | (refine wpStill_load1 rfl 22 (.tmp 38) rfl nb (0) rfl (2) (spAt u v) _ _ Tryd.underlying22 rfl NX.out (by omega) ?_; rw [spAt_0]; simp only [Act.put, List.setIfInBounds_toArray, List.set_cons_succ, List.set_cons_zero])
              | (refine wpStill_load1 rfl 23 (.tmp 43) rfl mt (2 + v * 8 + u) rfl (266) (U.at) _ _ Tryd.underlying23 rfl SB.out (by omega) ?_; rw [Sh.at_wet1 _ _ (8 * v + u) (by omega) (by omega), HWB.out]; simp only [Act.put, List.setIfInBounds_toArray, List.set_cons_succ, List.set_cons_zero])
              | still_step
              | (refine wpStill_step (fun K hK => ?_); go_simp; simp only [hxI, hyI, huI, hvI, if_true]; go_simp; refine hK _ ?_; clear hK K))
            refine wpStill_nil ?_
            rw [IntWalk.i16_in (wa - wb) (by omega)]
            go_wp2
            go_roundw
            case rel => exact ⟨j + 1, by omega, by go_num, by rw [hs2], by rw [hs2]; exact SB.out, PL.out, LI.out, PX.out, grown_drew hG.out⟩
            case measure => simp [intOf]; omega
        · obtain rfl : j = k0 := by omega
          have hjd : decide ((j : Int) < (j : Int)) = false := by simp
          rw [show M.take j = M by rw [← HK0.out, List.take_length]] at SB ⊢
          rw [← hst] at SB ⊢
          go_wp2
          go_roundw
          case rel => exact ⟨k + 1, by omega, by go_num, rfl, SB.out, PL.out, LI.out, hG.out⟩
          case measure => simp [intOf]; omega
    · obtain rfl : k = l.length := by omega
      have hkd : decide ((l.length : Int) < (l.length : Int)) = false := by simp
      rw [List.take_length] at SB ⊢
      go_wp2
      go_ret
      exact ⟨rfl, hG.out, SB.out⟩
end Go.Proofs.YtgbhchmpeioaiaaDoor
