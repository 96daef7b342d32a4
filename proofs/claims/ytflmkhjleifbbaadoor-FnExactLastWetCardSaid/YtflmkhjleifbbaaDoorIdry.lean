import Derived.Deep.RegionHeld3
import Derived.Test.YtflmkhjleifbbaaDoorIrun
import Derived.Test.YtflmkhjleifbbaaDoorDryM
import Derived.Test.YtflmkhjleifbbaaDoorQT
namespace Go.Proofs.YtflmkhjleifbbaaDoor
open Go.RowKit
set_option maxRecDepth 100000
set_option linter.unusedVariables false
set_option linter.unusedSimpArgs false
theorem grown_row_any' {A B C : World} {row row' : Option Nat} (h : A.grownBy B row) (g : B.grownBy C row') (hr : ∀ r, row' = some r → A.heap.size ≤ r) : A.grownBy C row :=
  ⟨g.os.trans h.os, g.tape.trans h.tape, g.output.trans h.output, Nat.le_trans h.size g.size, fun k hk hne => (g.block k (Nat.lt_of_lt_of_le hk h.size) (fun e => by have := hr k e.symm; omega)).trans (h.block k hk hne)⟩
theorem grown_row_set {A W : World} {row : Option Nat} {g : Nat} (h : A.grownBy W row) (hg : A.heap.size ≤ g) (cs : Array Value) : A.grownBy (W.setRow g cs) row :=
  grown_row_any' h (grown_set (grown_refl W (some g)) cs) (fun r e => by cases e; exact hg)
/-- the water of all places -/
def wetR (B : Sh) (i : Nat) : Value := .int .i16 (B.wet i)
theorem wetR_row (B : Sh) : vrow 64 (fun i => B.at (2 + i)) = vrow 64 (wetR B) := vrow_ext _ _ _ fun i hi => B.at_wet1 (2 + i) i rfl hi
theorem zero_w88 : ∀ w, (zeroValue 25).run Tryd.prog w = .ok (.agg (vrow 64 fun _ => .int .i16 0)) w := fun _ => by kernel_rfl
theorem size_w88 : (Tryd.prog.info? 25).map (·.size) = some 64 := by kernel_rfl
set_option maxHeartbeats 8000000 in
theorem idry_any (s B : Sh) (l : List Sp8) (mt gp gl : Nat) (f f2 : Nat → Value) (w : World) (hok : okI s = true) (hG : GRow w gp gl s l f f2) (ht : w.heap[mt]? = some (.cells (vrow 266 B.at) 34)) (hgd : Gd s B) (hnd : (l.map pix).Nodup) :
    Calls Tryd.prog 53 #[.pointer (some ⟨mt, 0, none⟩), .slice (some ⟨gp, 0, none⟩) l.length 64] w fun e w' => e = .returned (.int .i64 (l.foldl (cellDry s B) (B, 0)).2) ∧ w.grownBy w' (some mt) ∧ w'.heap[mt]? = some (.cells (vrow 266 (l.foldl (cellDry s B) (B, 0)).1.at) 34) := by
  obtain ⟨hpl, hli, hl64, hat, hnb⟩ := hG
  have hmg : mt ≠ gp := fun e => by rw [e, hpl] at ht; injection ht with e; injection e with e1 e2; revert e2; decide
  have hml : mt ≠ gl := fun e => by rw [e, hli] at ht; injection ht with e; injection e with e1 e2; revert e2; decide
  have ngm := row_lt ht
  have ngp := row_lt hpl
  have ngl := row_lt hli
  have HAT := Go.Lib.hid hat; have HNB := Go.Lib.hid hnb
  have HTK := Go.Lib.hid fun k => dry_take hgd hnd k
  have HWP := Go.Lib.hid fun i (hi : i < 64) => wet_pos hgd i hi
  have HLB := Go.Lib.hid fun p => loss_bd (s := s) (B := B) (p := p) (wet_pos hgd _ (pix_lt p)).1
  clear hat hnb hok hnd
  have zp := zero_plc
  have zs := zero_spot
  have zw := zero_w88
  replace hgd := Go.Lib.hid hgd
  go_enter Tryd.func53, Tryd.ntmps53
  go_wp2
  refine wp_region_noPanic ?_
  refine wp_region_held_drew (S := fun W' => W'.heap[mt]? = some (.cells (vrow 266 B.at) 34) ∧ W'.heap[gp]? = some (.cells (vrow (64 * 3) f) 88) ∧ W'.heap[gl]? = some (.cells (vrow (256 * 2) f2) 42) ∧ w.grownBy W' (some mt)) (by kernel_rfl) ⟨drew_row ht, drew_row hpl, drew_row hli, grown_drew (grown_refl w (some mt))⟩ (fun hH => ?_)
  have hsz0 : w.heap.size ≤ w.drew.heap.size := Nat.le_refl _
  clear ht hpl hli
  generalize World.drew _ = Wd at hH hsz0 ⊢
  refine wpAnyH_take (i := 0) (v := (.pointer (some ⟨mt, 0, none⟩))) rfl (by kernel_rfl) (by kernel_rfl) (by kernel_rfl) (fun _ _ _ h => h) (.inl ⟨by kernel_rfl, fun w _ => by go_simp⟩) hH ?_
  (try simp only [List.getElem_toArray, List.getElem_cons_succ, List.getElem_cons_zero, Act.put, List.setIfInBounds_toArray, List.set_cons_succ, List.set_cons_zero])
  refine wpAnyH_take (i := 1) (v := (.pointer (some ⟨mt, 0, none⟩))) rfl (by kernel_rfl) (by kernel_rfl) (by kernel_rfl) (fun _ _ _ h => h) (.inl ⟨by kernel_rfl, fun w _ => by go_simp⟩) hH ?_
  (try simp only [List.getElem_toArray, List.getElem_cons_succ, List.getElem_cons_zero, Act.put, List.setIfInBounds_toArray, List.set_cons_succ, List.set_cons_zero])
  refine wpAnyH_take (i := 2) (v := (.pointer (some ⟨mt, 2, none⟩))) rfl (by kernel_rfl) (by kernel_rfl) (by kernel_rfl) (fun _ _ _ h => h) (.inl ⟨by kernel_rfl, fun w _ => by go_simp⟩) hH ?_
  (try simp only [List.getElem_toArray, List.getElem_cons_succ, List.getElem_cons_zero, Act.put, List.setIfInBounds_toArray, List.set_cons_succ, List.set_cons_zero])
  refine wpAnyH_take (i := 3) (v := (.agg (vrow 64 (wetR B)))) rfl (by kernel_rfl) (by kernel_rfl) (by kernel_rfl) (fun _ _ _ h => h) (yields_mid (by kernel_rfl) 25 _ rfl mt 2 (by kernel_rfl) 266 64 B.at _ (by omega) 34 _ Tryd.underlying25 rfl size_w88 (wetR_row B) (fun _ h => h.1)) hH ?_
  (try simp only [List.getElem_toArray, List.getElem_cons_succ, List.getElem_cons_zero, Act.put, List.setIfInBounds_toArray, List.set_cons_succ, List.set_cons_zero])
  refine wpAnyH_ready (rs := [4]) (by kernel_rfl) (by simp) (AllReadyH.cons rfl (fun K hK => ?_) AllReadyH.nil)
  rw [if_pos (by kernel_rfl)]
  go_simp
  have nS := row_lt hH.1; have nP := row_lt hH.2.1; have nL := row_lt hH.2.2.1
  have hH1 := And.intro (heap_past Wd (.cells (vrow 64 fun _ => .int .i16 0) 25) _ _ nS hH.1) (And.intro (heap_past Wd (.cells (vrow 64 fun _ => .int .i16 0) 25) _ _ nP hH.2.1) (And.intro (heap_past Wd (.cells (vrow 64 fun _ => .int .i16 0) 25) _ _ nL hH.2.2.1) (grown_alloc hH.2.2.2 (.cells (vrow 64 fun _ => .int .i16 0) 25))))
  have BF0 := heap_at Wd (.cells (vrow 64 fun _ => .int .i16 0) 25) _ rfl
  have hbb : w.heap.size ≤ Wd.heap.size := hH.2.2.2.size
  generalize Wd.heap.size = bb at BF0 nS nP nL hbb ⊢
  generalize Wd.alloc _ = Wa at hH1 BF0 ⊢
  clear hH hsz0
  refine hK.out _ _ hH1 (fun hH => ?_)
  clear hK K hH1
  (try simp only [List.getElem_toArray, List.getElem_cons_succ, List.getElem_cons_zero, Act.put, List.setIfInBounds_toArray, List.set_cons_succ, List.set_cons_zero])
  refine wpAnyH_take (i := 5) (v := (.int .i64 0)) rfl (by kernel_rfl) (by kernel_rfl) (by kernel_rfl) (fun _ _ _ h => h) (.inl ⟨by kernel_rfl, fun w _ => by go_simp⟩) hH ?_
  (try simp only [List.getElem_toArray, List.getElem_cons_succ, List.getElem_cons_zero, Act.put, List.setIfInBounds_toArray, List.set_cons_succ, List.set_cons_zero])
  refine wpAnyH_ready (rs := [6]) (by kernel_rfl) (by simp) (AllReadyH.cons rfl (fun K hK => ?_) AllReadyH.nil)
  rw [if_pos (by kernel_rfl)]
  unfold Oper.wp
  rw [run_storemid 25 (.tmp 6) (.tmp 16) rfl bb 0 rfl 64 64 (fun _ => .int .i16 0) (wetR B) rfl 25 size_w88 BF0 (by omega) (fun _ _ => rfl), vrow_over_all, Oper.upon_skip]
  have BF1 := row_set BF0 (vrow 64 (wetR B))
  have hH1 := And.intro (row_set' (g := bb) (by omega) hH.1 (vrow 64 (wetR B))) (And.intro (row_set' (g := bb) (by omega) hH.2.1 (vrow 64 (wetR B))) (And.intro (row_set' (g := bb) (by omega) hH.2.2.1 (vrow 64 (wetR B))) (grown_row_set hH.2.2.2 hbb (vrow 64 (wetR B)))))
  clear hH BF0
  generalize World.setRow _ _ _ = Wb at hH1 BF1 ⊢
  refine hK.out _ _ hH1 (fun hH => ?_)
  clear hK K hH1
  (try simp only [List.getElem_toArray, List.getElem_cons_succ, List.getElem_cons_zero, Act.put, List.setIfInBounds_toArray, List.set_cons_succ, List.set_cons_zero])
  refine wpAnyH_done (by kernel_rfl) ?_ _
  refine NoPanic.normal ?_
  (try simp only [List.getElem_toArray, List.getElem_cons_succ, List.getElem_cons_zero, Act.put, List.setIfInBounds_toArray, List.set_cons_succ, List.set_cons_zero])
  obtain ⟨ht0, hpl0, hli0, hG0⟩ := hH
  replace ht0 := Go.Lib.hid ht0; replace hpl0 := Go.Lib.hid hpl0; replace hli0 := Go.Lib.hid hli0; replace hG0 := Go.Lib.hid hG0; replace BF1 := Go.Lib.hid BF1
  go_wp2
  go_loopw [5, 19] (fun nv kv wr => ∃ k : Nat, k ≤ l.length ∧ kv = .int .i64 k ∧ nv = .int .i64 ((l.take k).foldl (cellDry s B) (B, 0)).2 ∧ wr.heap[mt]? = some (.cells (vrow 266 ((l.take k).foldl (cellDry s B) (B, 0)).1.at) 34) ∧ wr.heap[gp]? = some (.cells (vrow (64 * 3) f) 88) ∧ wr.heap[gl]? = some (.cells (vrow (256 * 2) f2) 42) ∧ wr.heap[bb]? = some (.cells (vrow 64 (wetR B)) 25) ∧ w.grownBy wr (some mt)) (fun _ kv _ => l.length - (intOf kv).toNat)
  case atStart => exact ⟨0, by omega, rfl, rfl, ht0.out, hpl0.out, hli0.out, BF1.out, hG0.out⟩
  case round =>
    clear ht0 hpl0 hli0 hG0 BF1
    obtain ⟨k, hk, rfl, rfl, SB, PL, LI, BF, hG⟩ := hrel
    obtain ⟨hdr, hwk⟩ := HTK.out k
    have hlen : (l.take k).length ≤ 64 := by rw [List.length_take]; omega
    replace SB := Go.Lib.hid SB; replace PL := Go.Lib.hid PL; replace LI := Go.Lib.hid LI; replace BF := Go.Lib.hid BF; replace hG := Go.Lib.hid hG
    by_cases hlt : k < l.length
    · have hst : (l.take (k + 1)).foldl (cellDry s B) (B, 0) = cellDry s B ((l.take k).foldl (cellDry s B) (B, 0)) (l[k]'hlt) := by
        rw [List.take_succ_eq_append_getElem hlt, List.foldl_append]; rfl
      replace hwk := hwk hlt
      have HRP := HAT.out k hlt
      have hke := List.getElem?_eq_getElem hlt
      have hlb := HLB.out (l[k]'hlt)
      obtain ⟨⟨⟨x, y⟩, hx, hy⟩, hp⟩ : ∃ p, l[k]'hlt = p := ⟨_, rfl⟩
      rw [hp] at hst hwk HRP hke hlb
      have HRN := HNB.out k _ hke
      clear hp hke
      replace hx : x < 8 := hx
      replace hy : y < 8 := hy
      generalize ((l.take k).foldl (cellDry s B) (B, 0)) = TN at *
      obtain ⟨T, n⟩ := TN
      obtain ⟨n1, n2⟩ := hdr.sum
      have twb : T.wet (8 * y + x) = B.wet (8 * y + x) := hwk
      have hst3 : cellDry s B (T, n) ⟨(x, y), hx, hy⟩ = (T.sw (8 * y + x) (T.wet (8 * y + x) - loss s B ⟨(x, y), hx, hy⟩), n + loss s B ⟨(x, y), hx, hy⟩) := rfl
      have hls : loss s B ⟨(x, y), hx, hy⟩ = min (1 + dryN B (nbs s x y 4)) (B.wet (8 * y + x)) := rfl
      have hwp : 0 ≤ B.wet (8 * y + x) ∧ B.wet (8 * y + x) ≤ 200 := HWP.out (8 * y + x) (by omega)
      replace hlb : 0 ≤ loss s B ⟨(x, y), hx, hy⟩ ∧ loss s B ⟨(x, y), hx, hy⟩ ≤ B.wet (8 * y + x) ∧ loss s B ⟨(x, y), hx, hy⟩ ≤ 5 := hlb
      change 0 ≤ n at n1
      change n ≤ 5 * ((l.take k).length : Int) at n2
      change vrow 3 (fun q => f (k * 3 + q)) = #[.int .i8 (x : Int), .int .i8 (y : Int), besV gl (nbAll s (l.take k)).length ((nbAll s (l.take k)).length + (nbs s x y 4).length)] at HRP
      generalize (nbAll s (l.take k)).length = m at *
      have hML : (nbs s x y 4).length ≤ 4 := nbs_len s x y 4
      have hDN := fun j => dryN_bd B ((nbs s x y 4).take j)
      have hDN4 := dryN_bd B (nbs s x y 4)
      clear hwk
      rw [twb] at hst3
      obtain ⟨wa, hwa⟩ : ∃ wa, B.wet (8 * y + x) = wa := ⟨_, rfl⟩
      rw [hwa] at hst3 hls hwp hlb twb
      obtain ⟨lo, hlo⟩ : ∃ lo, loss s B ⟨(x, y), hx, hy⟩ = lo := ⟨_, rfl⟩
      rw [hlo] at hst3 hls hlb
      generalize nbs s x y 4 = M at *
      obtain ⟨k0, hk0⟩ : ∃ k0, M.length = k0 := ⟨_, rfl⟩
      rw [hk0] at HRP
      have HRPv : vrow 3 (fun q => f (k * 3 + q)) = (vrow 3 (plf x y (besV gl m (m + k0)))) := HRP
      have HRQ := Go.Lib.hid HRPv
      have HK0 := Go.Lib.hid hk0
      rw [hk0] at hML
      have hkI : (k : Int) < (l.length : Int) := by omega
      have hk00 : (0 : Int) ≤ (k : Int) := by omega
      have hkd : decide ((k : Int) < (l.length : Int)) = true := by simpa using hkI
      have hbz : ∀ i, (plf x y (besV gl m (m + k0)) i).oneCell' = true := plf_one _ _ _ rfl
      obtain ⟨ad, hbv, had⟩ := bes_slice gl m k0
      have HBV := Go.Lib.hid hbv
      have HAD := Go.Lib.hid had
      have HWA := Go.Lib.hid hwa
      replace hst3 := Go.Lib.hid hst3; replace hls := Go.Lib.hid hls; replace hst := Go.Lib.hid hst; replace twb := Go.Lib.hid twb; replace hDN := Go.Lib.hid hDN; replace hDN4 := Go.Lib.hid hDN4
      have hsz9 := Go.Lib.hid hlo
      clear HRP HRPv hk0 hbv had hwa hlo hdr
      have hxI : (x : Int) < 8 := by omega
      have hyI : (y : Int) < 8 := by omega
      go_wp2_with (first
        | go_skip
        | ((with_reducible refine wlAt 22 rfl ?_); refine wpList_loadmid rfl 88 (.tmp 21) rfl gp (k * 3) rfl (64 * 3) 3 f 88 _ Tryd.underlying88 rfl size_plc PL.out (by omega) ?_; rw [HRQ.out])
        | ((with_reducible refine wlOp (.store 88 (.tmp 8) (.tmp 22)) rfl ?_); refine wpList_storeall rfl 88 (.tmp 8) (.tmp 22) rfl _ rfl 3 (plf 0 0 (.slice none 0 0)) (plf x y (besV gl m (m + k0))) rfl 88 size_plc (heap_at _ _ _ rfl) (fun i _ => hbz i) ?_; rw [setRow_at _ _ _ _ _ rfl]; have PX := Go.Lib.hid (heap_at wr (.cells (vrow 3 (plf x y (besV gl m (m + k0)))) 88) _ rfl); have hgs := hG.out.size; replace SB := Go.Lib.hid (heap_past _ (.cells (vrow 3 (plf x y (besV gl m (m + k0)))) 88) _ _ (row_lt SB.out) SB.out); replace PL := Go.Lib.hid (heap_past _ (.cells (vrow 3 (plf x y (besV gl m (m + k0)))) 88) _ _ (row_lt PL.out) PL.out); replace LI := Go.Lib.hid (heap_past _ (.cells (vrow 3 (plf x y (besV gl m (m + k0)))) 88) _ _ (row_lt LI.out) LI.out); replace BF := Go.Lib.hid (heap_past _ (.cells (vrow 3 (plf x y (besV gl m (m + k0)))) 88) _ _ (row_lt BF.out) BF.out); replace hG := Go.Lib.hid (grown_alloc hG.out (.cells (vrow 3 (plf x y (besV gl m (m + k0)))) 88)); generalize wr.heap.size = pbx at PX hgs ⊢; generalize wr.alloc _ = w2 at SB PL LI BF PX hG ⊢))
      refine wp_region_still_lit (by kernel_rfl) (by kernel_rfl) ?_
      simp only [World.drew_eq]
      repeat (first
        | (refine wpStill_load1 rfl 22 (.tmp 24) rfl pbx (1) rfl (3) (plf x y (besV gl m (m + k0))) _ _ Tryd.underlying22 rfl PX.out (by omega) ?_; rw [plf_1]; simp only [Act.put, List.setIfInBounds_toArray, List.set_cons_succ, List.set_cons_zero])
        | (refine wpStill_load1 rfl 22 (.tmp 27) rfl pbx (0) rfl (3) (plf x y (besV gl m (m + k0))) _ _ Tryd.underlying22 rfl PX.out (by omega) ?_; rw [plf_0]; simp only [Act.put, List.setIfInBounds_toArray, List.set_cons_succ, List.set_cons_zero])
        | (refine wpStill_load1 rfl 23 (.tmp 30) rfl bb (y * 8 + x) rfl 64 (wetR B) _ _ Tryd.underlying23 rfl BF.out (by omega) ?_; rw [show wetR B (y * 8 + x) = .int .i16 wa by unfold wetR; rw [show y * 8 + x = 8 * y + x by omega, HWA.out]]; simp only [Act.put, List.setIfInBounds_toArray, List.set_cons_succ, List.set_cons_zero])
        | still_step
        | (refine wpStill_step (fun K hK => ?_); go_simp; simp only [hxI, hyI, if_true]; go_simp; refine hK _ ?_; clear hK K))
      refine wpStill_nil ?_
      have SB2 := drew_row SB.out
      have PL2 := drew_row PL.out
      have LI2 := drew_row LI.out
      have BF2 := drew_row BF.out
      have PX2 := drew_row PX.out
      have hG2 := grown_drew hG.out
      clear SB PL LI BF PX hG
      generalize World.drew w2 = w9 at SB2 PL2 LI2 BF2 PX2 hG2 ⊢
      have SB := Go.Lib.hid SB2
      have PL := Go.Lib.hid PL2
      have LI := Go.Lib.hid LI2
      have BF := Go.Lib.hid BF2
      have PX := Go.Lib.hid PX2
      have hG := Go.Lib.hid hG2
      clear SB2 PL2 LI2 BF2 PX2 hG2
      go_wp2_with (first
        | go_skip
        | ((with_reducible refine wlAt 33 rfl ?_); refine wpList_load1 rfl 46 (.tmp 32) rfl pbx 2 rfl 3 (plf x y (besV gl m (m + k0))) _ _ Tryd.underlying46 rfl PX.out (by omega) ?_; rw [plf_2, HBV.out]))
      obtain ⟨wo2, hwo2⟩ : ∃ wo : World, wo = w9 := ⟨_, rfl⟩
      rw [← hwo2] at SB PL LI BF PX hG ⊢
      clear hwo2 w9
      go_loopw [10, 35] (fun lv jv wr => ∃ j : Nat, j ≤ k0 ∧ jv = .int .i64 j ∧ lv = .int .i16 (1 + dryN B (M.take j)) ∧ wr.heap[mt]? = some (.cells (vrow 266 T.at) 34) ∧ wr.heap[gp]? = some (.cells (vrow (64 * 3) f) 88) ∧ wr.heap[gl]? = some (.cells (vrow (256 * 2) f2) 42) ∧ wr.heap[bb]? = some (.cells (vrow 64 (wetR B)) 25) ∧ wr.heap[pbx]? = some (.cells (vrow 3 (plf x y (besV gl m (m + k0)))) 88) ∧ w.grownBy wr (some mt)) (fun _ jv _ => k0 - (intOf jv).toNat)
      case atStart => exact ⟨0, by omega, rfl, by simp [dryN], SB.out, PL.out, LI.out, BF.out, PX.out, hG.out⟩
      case round =>
        clear SB PL LI BF PX hG
        obtain ⟨j, hj, rfl, rfl, SB, PL, LI, BF, PX, hG⟩ := hrel
        obtain ⟨q1, q2⟩ := hDN.out j
        have hlenj : (M.take j).length ≤ 4 := by rw [List.length_take]; have := HK0.out; omega
        replace SB := Go.Lib.hid SB; replace PL := Go.Lib.hid PL; replace LI := Go.Lib.hid LI; replace BF := Go.Lib.hid BF; replace PX := Go.Lib.hid PX; replace hG := Go.Lib.hid hG
        by_cases hlj : j < k0
        · have hljM : j < M.length := by have := HK0.out; omega
          have hs2 : dryN B (M.take (j + 1)) = dryN B (M.take j) + (if B.wet (pix (M[j]'hljM)) = 0 then 1 else 0) := by
            rw [List.take_succ_eq_append_getElem hljM, dryN_snoc]
          obtain rfl := HAD.out (by omega)
          have hje := List.getElem?_eq_getElem hljM
          obtain ⟨⟨⟨u, v⟩, hu, hv⟩, hp⟩ : ∃ p, M[j]'hljM = p := ⟨_, rfl⟩
          rw [hp] at hs2 hje
          obtain ⟨hmj, HR2⟩ := HRN j _ hje
          clear hp hje
          replace hu : u < 8 := hu
          replace hv : v < 8 := hv
          replace HR2 : vrow 2 (fun r => f2 ((m + j) * 2 + r)) = vrow 2 (spAt u v) := HR2
          rw [Nat.add_mul] at HR2
          replace HR2 := Go.Lib.hid HR2
          replace hs2 : dryN B (M.take (j + 1)) = dryN B (M.take j) + (if B.wet (8 * v + u) = 0 then 1 else 0) := hs2
          obtain ⟨wb, hwb⟩ : ∃ wb, B.wet (8 * v + u) = wb := ⟨_, rfl⟩
          rw [hwb] at hs2
          have HWB := Go.Lib.hid hwb
          clear hwb
          have huI : (u : Int) < 8 := by omega
          have hvI : (v : Int) < 8 := by omega
          have hjI : (j : Int) < (k0 : Int) := by omega
          have hj0 : (0 : Int) ≤ (j : Int) := by omega
          have hjd : decide ((j : Int) < (k0 : Int)) = true := by simpa using hjI
          have hgsz := hG.out.size
          have hnx : w.heap.size ≤ wr.heap.size := hgsz
          go_wp2_with (first
            | go_skip
            | ((with_reducible refine wlAt 38 rfl ?_); refine wpList_loadmid rfl 42 (.tmp 37) rfl gl (m * 2 + j * 2) rfl (256 * 2) 2 f2 42 _ Tryd.underlying42 rfl size_spot LI.out (by omega) ?_; rw [HR2.out])
            | ((with_reducible refine wlOp (.store 42 (.tmp 12) (.tmp 38)) rfl ?_); refine wpList_storeall rfl 42 (.tmp 12) (.tmp 38) rfl _ rfl 2 (spAt 0 0) (spAt u v) rfl 42 size_spot (heap_at _ _ _ rfl) (fun i _ => spAt_one _ _ i) ?_; rw [setRow_at _ _ _ _ _ rfl]; have NX := Go.Lib.hid (heap_at wr (.cells (vrow 2 (spAt u v)) 42) _ rfl); replace SB := Go.Lib.hid (heap_past _ (.cells (vrow 2 (spAt u v)) 42) _ _ (row_lt SB.out) SB.out); replace PL := Go.Lib.hid (heap_past _ (.cells (vrow 2 (spAt u v)) 42) _ _ (row_lt PL.out) PL.out); replace LI := Go.Lib.hid (heap_past _ (.cells (vrow 2 (spAt u v)) 42) _ _ (row_lt LI.out) LI.out); replace BF := Go.Lib.hid (heap_past _ (.cells (vrow 2 (spAt u v)) 42) _ _ (row_lt BF.out) BF.out); replace PX := Go.Lib.hid (heap_past _ (.cells (vrow 2 (spAt u v)) 42) _ _ (row_lt PX.out) PX.out); replace hG := Go.Lib.hid (grown_alloc hG.out (.cells (vrow 2 (spAt u v)) 42)); generalize wr.heap.size = nb at NX hnx hgsz ⊢; generalize wr.alloc _ = w3 at SB PL LI BF PX NX hG ⊢))
          refine wp_region_still_lit (by kernel_rfl) (by kernel_rfl) ?_
          simp only [World.drew_eq]
          repeat (first
            | (refine wpStill_load1 rfl 22 (.tmp 39) rfl nb (1) rfl (2) (spAt u v) _ _ Tryd.underlying22 rfl NX.out (by omega) ?_; rw [spAt_1]; simp only [Act.put, List.setIfInBounds_toArray, List.set_cons_succ, List.set_cons_zero])
            | (refine wpStill_load1 rfl 22 (.tmp 41) rfl nb (0) rfl (2) (spAt u v) _ _ Tryd.underlying22 rfl NX.out (by omega) ?_; rw [spAt_0]; simp only [Act.put, List.setIfInBounds_toArray, List.set_cons_succ, List.set_cons_zero])
            | (refine wpStill_load1 rfl 23 (.tmp 44) rfl bb (v * 8 + u) rfl 64 (wetR B) _ _ Tryd.underlying23 rfl BF.out (by omega) ?_; rw [show wetR B (v * 8 + u) = .int .i16 wb by unfold wetR; rw [show v * 8 + u = 8 * v + u by omega, HWB.out]]; simp only [Act.put, List.setIfInBounds_toArray, List.set_cons_succ, List.set_cons_zero])
            | still_step
            | (refine wpStill_step (fun K hK => ?_); go_simp; simp only [huI, hvI, if_true]; go_simp; refine hK _ ?_; clear hK K))
          refine wpStill_nil ?_
          have SB2 := drew_row SB.out
          have PL2 := drew_row PL.out
          have LI2 := drew_row LI.out
          have BF2 := drew_row BF.out
          have PX2 := drew_row PX.out
          have hG2 := grown_drew hG.out
          clear SB PL LI BF PX hG
          generalize World.drew w3 = w9 at SB2 PL2 LI2 BF2 PX2 hG2 ⊢
          have SB := Go.Lib.hid SB2
          have PL := Go.Lib.hid PL2
          have LI := Go.Lib.hid LI2
          have BF := Go.Lib.hid BF2
          have PX := Go.Lib.hid PX2
          have hG := Go.Lib.hid hG2
          clear SB2 PL2 LI2 BF2 PX2 hG2
          by_cases hz3 : wb = 0
          · subst hz3
            rw [if_pos rfl] at hs2
            replace hs2 := Go.Lib.hid hs2
            go_wp2
            go_roundw
            case rel => exact ⟨j + 1, by omega, by go_num, by rw [hs2.out]; first | go_num | (rw [Int.add_assoc]), SB.out, PL.out, LI.out, BF.out, PX.out, hG.out⟩
            case measure => simp [intOf]; omega
          · have hz4 : (wb == 0) = false := by simpa using hz3
            have hz5 : decide (wb = 0) = false := by simpa using hz3
            rw [if_neg hz3] at hs2
            replace hs2 := Go.Lib.hid hs2
            clear hz3
            go_wp2
            go_roundw
            case rel => exact ⟨j + 1, by omega, by go_num, by rw [hs2.out]; go_num, SB.out, PL.out, LI.out, BF.out, PX.out, hG.out⟩
            case measure => simp [intOf]; omega
        · obtain rfl : j = k0 := by omega
          have hjd : decide ((j : Int) < (j : Int)) = false := by simp
          have hMt : M.take j = M := by rw [← HK0.out, List.take_length]
          rw [hMt] at q1 q2 ⊢
          clear hMt
          go_wp2
          all_goals (first | rw [show wa = lo by (have := hls.out; omega)] | rw [show 1 + dryN B M = lo by (have := hls.out; omega)])
          all_goals (
            refine wp_region_still_tail 18 (by kernel_rfl) (by kernel_rfl) ?_
            simp only [List.take_succ_cons, List.take_zero, List.drop_succ_cons, List.drop_zero, World.drew_eq]
            repeat (first
              | (refine wpStill_load1 rfl 22 (.tmp 55) rfl pbx (1) rfl (3) (plf x y (besV gl m (m + j))) _ _ Tryd.underlying22 rfl PX.out (by omega) ?_; rw [plf_1]; simp only [Act.put, List.setIfInBounds_toArray, List.set_cons_succ, List.set_cons_zero])
              | (refine wpStill_load1 rfl 22 (.tmp 58) rfl pbx (0) rfl (3) (plf x y (besV gl m (m + j))) _ _ Tryd.underlying22 rfl PX.out (by omega) ?_; rw [plf_0]; simp only [Act.put, List.setIfInBounds_toArray, List.set_cons_succ, List.set_cons_zero])
              | (refine wpStill_load1 rfl 23 (.tmp 63) rfl mt (2 + y * 8 + x) rfl 266 T.at _ _ Tryd.underlying23 rfl SB.out (by omega) ?_; rw [Sh.at_wet1 _ _ (8 * y + x) (by omega) (by omega), twb.out]; simp only [Act.put, List.setIfInBounds_toArray, List.set_cons_succ, List.set_cons_zero])
              | still_step
              | (refine wpStill_step (fun K hK => ?_); go_simp; simp only [hxI, hyI, if_true]; go_simp; refine hK _ ?_; clear hK K))
            refine wpStill_nil ?_
            refine wpList_store1 rfl 23 (.tmp 70) (.tmp 66) rfl mt (2 + y * 8 + x) rfl 266 T.at (.int .i16 (wa - lo)) (by first | rfl | (show Value.int .i16 (IntKind.i16.wrap (wa - lo)) = _; rw [IntWalk.i16_in (wa - lo) (by omega)])) 34 size_i16 SB.out (by omega) rfl ?_
            rw [T.sw_at _ (8 * y + x) (by omega) (by omega)]
            have SB2 := row_set (w := wr.drew) SB.out (vrow 266 (T.sw (8 * y + x) (wa - lo)).at)
            have PL2 := row_set' (w := wr.drew) (g := mt) (by omega) PL.out (vrow 266 (T.sw (8 * y + x) (wa - lo)).at)
            have LI2 := row_set' (w := wr.drew) (g := mt) (by omega) LI.out (vrow 266 (T.sw (8 * y + x) (wa - lo)).at)
            have BF2 := row_set' (w := wr.drew) (g := mt) (by omega) BF.out (vrow 266 (T.sw (8 * y + x) (wa - lo)).at)
            have hG2 := grown_set (grown_drew hG.out) (vrow 266 (T.sw (8 * y + x) (wa - lo)).at)
            clear SB PL LI BF PX hG
            generalize World.setRow wr.drew _ _ = w9 at SB2 PL2 LI2 BF2 hG2 ⊢
            have SB := Go.Lib.hid SB2; have PL := Go.Lib.hid PL2; have LI := Go.Lib.hid LI2; have BF := Go.Lib.hid BF2; have hG := Go.Lib.hid hG2
            clear SB2 PL2 LI2 BF2 hG2
            go_wp2
            go_roundw
            case rel => exact ⟨k + 1, by omega, by go_num, by rw [hst.out, hst3.out], by rw [hst.out, hst3.out]; exact SB.out, PL.out, LI.out, BF.out, hG.out⟩
            case measure => simp [intOf]; omega)
    · obtain rfl : k = l.length := by omega
      have hkd : decide ((l.length : Int) < (l.length : Int)) = false := by simp
      rw [List.take_length] at SB ⊢
      go_wp2
      go_ret
      exact ⟨rfl, hG.out, SB.out⟩
end Go.Proofs.YtflmkhjleifbbaaDoor
