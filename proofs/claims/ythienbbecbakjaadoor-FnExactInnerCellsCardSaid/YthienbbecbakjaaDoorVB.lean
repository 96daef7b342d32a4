import Derived.Deep.RegionHeld3
import Derived.Test.YthienbbecbakjaaDoorVA
import Derived.Test.YthienbbecbakjaaDoorQT
namespace Go.Proofs.YthienbbecbakjaaDoor
open Go.RowKit
set_option maxRecDepth 100000
set_option linter.unusedVariables false
set_option linter.unusedSimpArgs false
theorem size_ar : (Tryd.prog.info? 72).map (·.size) = some 64 := by kernel_rfl
theorem zero_ar : ∀ w, (zeroValue 72).run Tryd.prog w = .ok (.agg (vrow 64 (blf fun _ => false))) w := fun _ => by kernel_rfl
set_option maxHeartbeats 2000000 in
theorem arHas_any (f : Nat → Bool) (x y : Nat) (w : World) (hx : x < 8) (hy : y < 8) : Calls Tryd.prog 40 #[.agg (vrow 64 (blf f)), .agg (vrow 2 (spAt x y))] w fun e w' => e = .returned (.bool (f (8 * y + x))) ∧ Below w.heap.size w w' := by
  have hxI : (x : Int) < 8 := by omega
  have hyI : (y : Int) < 8 := by omega
  have BF := Go.Lib.hid (blf_at f x y)
  generalize f (8 * y + x) = bb at *
  have P : Hid (((w.alloc (.cells (vrow 64 (blf f)) 72)).alloc (.cells (vrow 2 (spAt x y)) 61)).heap[w.heap.size]? = some (.cells (vrow 64 (blf f)) 72)) := heap_past _ _ _ _ (by simp <;> omega) (heap_at _ _ _ (by simp))
  have R : Hid (((w.alloc (.cells (vrow 64 (blf f)) 72)).alloc (.cells (vrow 2 (spAt x y)) 61)).heap[w.heap.size + 1]? = some (.cells (vrow 2 (spAt x y)) 61)) := heap_at _ _ _ (by simp)
  have hB : Hid (Below w.heap.size w ((w.alloc (.cells (vrow 64 (blf f)) 72)).alloc (.cells (vrow 2 (spAt x y)) 61))) := Go.Lib.hid (((Below.refl w.heap.size w).alloc (by simp <;> omega) _).alloc (by simp <;> omega) _)
  go_enter Tryd.func40, Tryd.ntmps40
  go_wp2
  refine region_at (by kernel_rfl) (by kernel_rfl) ?_
  intro W hW
  rw [hW] at hB P R
  clear hW
  have P' := Go.Lib.hid (cls_row' P.out); have R' := Go.Lib.hid (cls_row' R.out)
  (repeat (first
    | go_big_quiet_skip
    | (refine wpQuiet_load1 22 _ rfl (by first | exact want_n rfl | exact want_g _ _ _ rfl rfl rfl) (w.heap.size + 1) _ rfl 2 (spAt x y) _ rw_i8 R'.out (by omega) ?_; (first | rw [spAt_0] | rw [spAt_1]); simp only [Act.put, List.setIfInBounds_toArray, List.set_cons_succ, List.set_cons_zero])
    | (refine wpQuiet_load1 4 _ rfl (by first | exact want_n rfl | exact want_g _ _ _ rfl rfl rfl) w.heap.size _ rfl 64 (blf f) _ rw_bool8 P'.out (by omega) ?_; (try simp only [Nat.zero_add, Nat.mul_one]); rw [BF.out]; simp only [Act.put, List.setIfInBounds_toArray, List.set_cons_succ, List.set_cons_zero])
    | go_big_quiet_step (fail)))
  refine wpQuiet_nil ?_
  intro W2 hb
  replace hB := Go.Lib.hid (below_next hB.out hb)
  clear hb P' R'
  go_wp2
  go_ret
  exact ⟨rfl, hB.out⟩
set_option maxHeartbeats 8000000 in
theorem places_any (s : Sh) (l : List Sp8) (gp gl : Nat) (f f2 : Nat → Value) (pb : Sp8 → Bool) (F : FuncId) (fs lb : Array Value) (w : World) (hG : GRow w gp gl s l f f2)
    (hF : ∀ (xs : Array Value) (w : World), (callFunc F xs).run Tryd.prog w = .ok (.enter F xs) w)
    (hC : ∀ k (hk : k < l.length) W, Below w.heap.size w W → Calls Tryd.prog F (fs.push (.agg (vrow 3 (plV s gl l k (l[k]'hk)))) ++ lb) W fun e w' => e = .returned (.bool (pb (l[k]'hk))) ∧ Below W.heap.size W w') :
    Calls Tryd.prog 57 #[.slice (some ⟨gp, 0, none⟩) l.length 64, .func (.func F) fs lb] w fun e w' => e = .returned (.agg (vrow 64 (blf (plA l pb)))) ∧ Below w.heap.size w w' := by
  have HC := Go.Lib.hid hC
  have HF := Go.Lib.hid hF
  clear hC hF
  have hl64 := hG.hl
  have ngp := row_lt hG.pl; have ngl := row_lt hG.li
  have zp := zero_plc
  have za := zero_ar
  have Z : Hid (((w.alloc (.cells (vrow 64 (blf fun _ => false)) 72)).alloc (.cells (vrow 64 (blf fun _ => false)) 72)).heap[w.heap.size]? = some (.cells (vrow 64 (blf fun _ => false)) 72)) := heap_past _ _ _ _ (by simp <;> omega) (heap_at _ _ _ (by simp))
  have V : Hid (((w.alloc (.cells (vrow 64 (blf fun _ => false)) 72)).alloc (.cells (vrow 64 (blf fun _ => false)) 72)).heap[w.heap.size + 1]? = some (.cells (vrow 64 (blf fun _ => false)) 72)) := heap_at _ _ _ (by simp)
  have hB : Hid (Below w.heap.size w ((w.alloc (.cells (vrow 64 (blf fun _ => false)) 72)).alloc (.cells (vrow 64 (blf fun _ => false)) 72))) := Go.Lib.hid (((Below.refl w.heap.size w).alloc (by simp <;> omega) _).alloc (by simp <;> omega) _)
  have GR := Go.Lib.hid ((hG.allocW (.cells (vrow 64 (blf fun _ => false)) 72)).allocW (.cells (vrow 64 (blf fun _ => false)) 72))
  go_enter Tryd.func57, Tryd.ntmps57
  go_wp2
  have z1 := Z.out; have v1 := V.out; have b1 := hB.out; have g1 := GR.out
  clear Z V hB GR
  go_loopw [10] (fun kv wr => ∃ k : Nat, k ≤ l.length ∧ kv = .int .i64 k ∧ wr.heap[w.heap.size]? = some (.cells (vrow 64 (blf fun _ => false)) 72) ∧ wr.heap[w.heap.size + 1]? = some (.cells (vrow 64 (blf (plA (l.take k) pb))) 72) ∧ GRow wr gp gl s l f f2 ∧ Below w.heap.size w wr) (fun kv _ => l.length - (intOf kv).toNat)
  case atStart => exact ⟨0, by omega, rfl, z1, v1, g1, b1⟩
  case round =>
    clear z1 v1 b1 g1
    obtain ⟨k, hk, rfl, Z, V, GR, hB⟩ := hrel
    by_cases hlt : k < l.length
    · have hst : plA (l.take (k + 1)) pb = setB (plA (l.take k) pb) (pix (l[k]'hlt)) (pb (l[k]'hlt)) := by rw [List.take_succ_eq_append_getElem hlt, plA_app]
      have hkI : (k : Int) < (l.length : Int) := by omega
      have hk0 : (0 : Int) ≤ (k : Int) := by omega
      have hkd : decide ((k : Int) < (l.length : Int)) = true := by simpa using hkI
      have hrq := GR.plW k hlt
      have HC0 := fun W h => HC.out k hlt W h
      obtain ⟨p, hp⟩ : ∃ p, l[k]'hlt = p := ⟨_, rfl⟩
      rw [hp] at hst hrq HC0
      clear hp
      have hpl := pix_lt p
      have hx : p.1.1 < 8 := p.2.1
      have hy : p.1.2 < 8 := p.2.2
      have hxI : (p.1.1 : Int) < 8 := by omega
      have hyI : (p.1.2 : Int) < 8 := by omega
      have hpx : pix p = 8 * p.1.2 + p.1.1 := rfl
      rw [hpx] at hst
      have HRQ := Go.Lib.hid hrq; have HCk := Go.Lib.hid HC0
      clear hrq HC0 hpx hpl
      generalize plA (l.take k) pb = g at *
      generalize pb p = bk at *
      have HST := Go.Lib.hid hst
      clear hst
      replace Z := Go.Lib.hid Z; replace V := Go.Lib.hid V; replace GR := Go.Lib.hid GR; replace hB := Go.Lib.hid hB
      go_wp2_with (first
        | go_skip
        | ((with_reducible refine wlAt 13 rfl ?_); refine wpList_loadmid rfl 91 (.tmp 12) rfl gp (k * 3) rfl (64 * 3) 3 f 91 _ Tryd.underlying91 rfl size_plc GR.out.pl (by omega) ?_; rw [HRQ.out])
        | ((with_reducible refine wlOp (.store 91 (.tmp 7) (.tmp 13)) rfl ?_); refine wpList_storeall rfl 91 (.tmp 7) (.tmp 13) rfl _ rfl 3 (plf 0 0 (.slice none 0 0)) (plV s gl l k p) rfl 91 size_plc (heap_at _ _ _ rfl) (fun i _ => plV_one _ _ _ _ _ i) ?_; rw [setRow_at _ _ _ _ _ rfl]; have PX := Go.Lib.hid (heap_at wr (.cells (vrow 3 (plV s gl l k p)) 91) _ rfl); have nZ := row_lt Z.out; replace Z := Go.Lib.hid (heap_past _ (.cells (vrow 3 (plV s gl l k p)) 91) _ _ nZ Z.out); have nV := row_lt V.out; replace V := Go.Lib.hid (heap_past _ (.cells (vrow 3 (plV s gl l k p)) 91) _ _ nV V.out); replace GR := Go.Lib.hid (GR.out.allocW (.cells (vrow 3 (plV s gl l k p)) 91)); replace hB := Go.Lib.hid (hB.out.alloc hB.out.size (.cells (vrow 3 (plV s gl l k p)) 91)); generalize wr.heap.size = pbx at PX nZ nV ⊢; generalize wr.alloc _ = w2 at Z V GR PX hB ⊢))
      have Vz : w2.drew.heap[w.heap.size + 1]? = some (.cells (vrow 64 (blf g)) 72) := V.out
      refine wp_region_noPanic ?_
      refine wp_region_held_drew (S := fun W' => W'.heap[pbx]? = some (.cells (vrow 3 (plV s gl l k p)) 91) ∧ W'.heap[w.heap.size]? = some (.cells (vrow 64 (blf fun _ => false)) 72) ∧ GRow W' gp gl s l f f2 ∧ Below w.heap.size w W') (by kernel_rfl) ⟨PX.out, Z.out, GR.out.drewW, hB.out.drew⟩ (fun hH => ?_)
      clear Z V PX GR hB
      generalize World.drew _ = W4 at hH Vz ⊢
      refine wpAnyH_take (i := 0) (v := (.pointer (some ⟨pbx, 0, none⟩))) rfl (by kernel_rfl) (by kernel_rfl) (by kernel_rfl) (fun _ _ _ h => h) (.inl ⟨by kernel_rfl, fun w hw => by go_simp⟩) hH ?_
      (try simp only [List.getElem_toArray, List.getElem_cons_succ, List.getElem_cons_zero, Act.put, List.setIfInBounds_toArray, List.set_cons_succ, List.set_cons_zero])
      refine wpAnyH_take (i := 1) (v := (.pointer (some ⟨pbx, 1, none⟩))) rfl (by kernel_rfl) (by kernel_rfl) (by kernel_rfl) (fun _ _ _ h => h) (.inl ⟨by kernel_rfl, fun w hw => by go_simp⟩) hH ?_
      (try simp only [List.getElem_toArray, List.getElem_cons_succ, List.getElem_cons_zero, Act.put, List.setIfInBounds_toArray, List.set_cons_succ, List.set_cons_zero])
      refine wpAnyH_take (i := 2) (v := (.int .i8 (p.1.2 : Int))) rfl (by kernel_rfl) (by kernel_rfl) (by kernel_rfl) (fun _ _ _ h => h) (by rw [← plV_1 s gl l k p]; exact yields_one (by kernel_rfl) 22 _ rfl pbx 1 (by kernel_rfl) 3 (plV s gl l k p) 91 _ Tryd.underlying22 rfl (by omega) (fun _ h => h.1)) hH ?_
      (try simp only [List.getElem_toArray, List.getElem_cons_succ, List.getElem_cons_zero, Act.put, List.setIfInBounds_toArray, List.set_cons_succ, List.set_cons_zero])
      refine wpAnyH_take (i := 3) (v := (.pointer (some ⟨pbx, 0, none⟩))) rfl (by kernel_rfl) (by kernel_rfl) (by kernel_rfl) (fun _ _ _ h => h) (.inl ⟨by kernel_rfl, fun w hw => by go_simp⟩) hH ?_
      (try simp only [List.getElem_toArray, List.getElem_cons_succ, List.getElem_cons_zero, Act.put, List.setIfInBounds_toArray, List.set_cons_succ, List.set_cons_zero])
      refine wpAnyH_take (i := 4) (v := (.pointer (some ⟨pbx, 0, none⟩))) rfl (by kernel_rfl) (by kernel_rfl) (by kernel_rfl) (fun _ _ _ h => h) (.inl ⟨by kernel_rfl, fun w hw => by go_simp⟩) hH ?_
      (try simp only [List.getElem_toArray, List.getElem_cons_succ, List.getElem_cons_zero, Act.put, List.setIfInBounds_toArray, List.set_cons_succ, List.set_cons_zero])
      refine wpAnyH_take (i := 5) (v := (.int .i8 (p.1.1 : Int))) rfl (by kernel_rfl) (by kernel_rfl) (by kernel_rfl) (fun _ _ _ h => h) (by rw [← plV_0 s gl l k p]; exact yields_one (by kernel_rfl) 22 _ rfl pbx 0 (by kernel_rfl) 3 (plV s gl l k p) 91 _ Tryd.underlying22 rfl (by omega) (fun _ h => h.1)) hH ?_
      (try simp only [List.getElem_toArray, List.getElem_cons_succ, List.getElem_cons_zero, Act.put, List.setIfInBounds_toArray, List.set_cons_succ, List.set_cons_zero])
      refine wpAnyH_take (i := 6) (v := (.func (.func F) fs lb)) rfl (by kernel_rfl) (by kernel_rfl) (by kernel_rfl) (fun _ _ _ h => h) (.inl ⟨by kernel_rfl, fun w hw => by go_simp⟩) hH ?_
      (try simp only [List.getElem_toArray, List.getElem_cons_succ, List.getElem_cons_zero, Act.put, List.setIfInBounds_toArray, List.set_cons_succ, List.set_cons_zero])
      refine wpAnyH_take (i := 7) (v := (.agg (vrow 3 (plV s gl l k p)))) rfl (by kernel_rfl) (by kernel_rfl) (by kernel_rfl) (fun _ _ _ h => h) (yields_row (by kernel_rfl) 91 _ rfl pbx (by kernel_rfl) 3 (plV s gl l k p) 91 _ Tryd.underlying91 rfl size_plc (fun _ h => h.1)) hH ?_
      (try simp only [List.getElem_toArray, List.getElem_cons_succ, List.getElem_cons_zero, Act.put, List.setIfInBounds_toArray, List.set_cons_succ, List.set_cons_zero])
      refine wpAnyH_take (i := 9) (v := (.pointer (some ⟨w.heap.size + 1, p.1.2 * 8, none⟩))) rfl (by kernel_rfl) (by kernel_rfl) (by kernel_rfl) (fun _ _ _ h => h) (.inl ⟨by kernel_rfl, fun w hw => by go_simp <;> (intro hh; exfalso; omega)⟩) hH ?_
      (try simp only [List.getElem_toArray, List.getElem_cons_succ, List.getElem_cons_zero, Act.put, List.setIfInBounds_toArray, List.set_cons_succ, List.set_cons_zero])
      refine wpAnyH_ready (rs := [8]) (by kernel_rfl) (by simp) (AllReadyH.cons rfl (fun K hK => ?_) AllReadyH.nil)
      rw [if_pos (by kernel_rfl)]
      go_simp
      rw [HF.out]
      simp only [Oper.upon]
      refine (HCk.out _ hH.2.2.2).mono ?_
      rintro e X1 ⟨rfl, hb⟩
      have hH1 : X1.heap[pbx]? = some (.cells (vrow 3 (plV s gl l k p)) 91) ∧ X1.heap[w.heap.size]? = some (.cells (vrow 64 (blf fun _ => false)) 72) ∧ GRow X1 gp gl s l f f2 ∧ Below w.heap.size w X1 := ⟨row_next hb hH.1, row_next hb hH.2.1, hH.2.2.1.nextW hb, hH.2.2.2.trans (hb.mono hH.2.2.2.size)⟩
      replace Vz := row_next hb Vz
      clear hH hb
      refine hK.out _ _ hH1 (fun hH => ?_)
      clear hK K hH1
      (try simp only [List.getElem_toArray, List.getElem_cons_succ, List.getElem_cons_zero, Act.put, List.setIfInBounds_toArray, List.set_cons_succ, List.set_cons_zero])
      refine wpAnyH_take (i := 10) (v := (.pointer (some ⟨w.heap.size + 1, p.1.2 * 8 + p.1.1, none⟩))) rfl (by kernel_rfl) (by kernel_rfl) (by kernel_rfl) (fun _ _ _ h => h) (.inl ⟨by kernel_rfl, fun w hw => by go_simp <;> (intro hh; exfalso; omega)⟩) hH ?_
      (try simp only [List.getElem_toArray, List.getElem_cons_succ, List.getElem_cons_zero, Act.put, List.setIfInBounds_toArray, List.set_cons_succ, List.set_cons_zero])
      refine wpAnyH_ready (rs := [11]) (by kernel_rfl) (by simp) (AllReadyH.cons rfl (fun K hK => ?_) AllReadyH.nil)
      rw [if_pos (by kernel_rfl)]
      unfold Oper.wp
      rw [run_store1 4 (.tmp 24) (.tmp 22) rfl (w.heap.size + 1) (p.1.2 * 8 + p.1.1) (by kernel_rfl) 64 (blf g) (.bool bk) (by kernel_rfl) 72 size_bool8 Vz (by omega) rfl, blf_set, Nat.mul_comm p.1.2 8, Oper.upon_skip]
      obtain ⟨h1, h2, h4, h5⟩ := hH
      have n1 := row_lt h1
      have hH2 := And.intro (row_set' (g := w.heap.size + 1) (by omega) h1 (vrow 64 (blf (setB g (8 * p.1.2 + p.1.1) bk)))) (And.intro (row_set' (g := w.heap.size + 1) (by omega) h2 (vrow 64 (blf (setB g (8 * p.1.2 + p.1.1) bk)))) (And.intro (h4.setW (g := w.heap.size + 1) (by omega) (by omega) (vrow 64 (blf (setB g (8 * p.1.2 + p.1.1) bk)))) (Below_setRow h5 (show w.heap.size ≤ w.heap.size + 1 by omega) (vrow 64 (blf (setB g (8 * p.1.2 + p.1.1) bk))))))
      have V2 := row_set Vz (vrow 64 (blf (setB g (8 * p.1.2 + p.1.1) bk)))
      clear Vz h1 h2 h4 h5
      generalize World.setRow X1 _ _ = WS at hH2 V2 ⊢
      refine hK.out _ _ hH2 (fun hH => ?_)
      clear hK K hH2
      (try simp only [List.getElem_toArray, List.getElem_cons_succ, List.getElem_cons_zero, Act.put, List.setIfInBounds_toArray, List.set_cons_succ, List.set_cons_zero])
      refine wpAnyH_done (by kernel_rfl) ?_ _
      refine NoPanic.normal ?_
      (try simp only [List.getElem_toArray, List.getElem_cons_succ, List.getElem_cons_zero, Act.put, List.setIfInBounds_toArray, List.set_cons_succ, List.set_cons_zero])
      obtain ⟨_, h2, h4, h5⟩ := hH
      go_wp2
      go_roundw
      case rel => exact ⟨k + 1, by omega, by go_num, h2, by rw [HST.out]; exact V2, h4, h5⟩
      case measure => simp [intOf]; omega
    · obtain rfl : k = l.length := by omega
      have hkd : decide ((l.length : Int) < (l.length : Int)) = false := by simp
      rw [List.take_length] at V
      replace Z := Go.Lib.hid Z; replace V := Go.Lib.hid V; replace hB := Go.Lib.hid hB
      obtain ⟨g, hg⟩ : ∃ g, plA l pb = g := ⟨_, rfl⟩
      have V0 := V.out
      rw [hg] at V0
      replace V := Go.Lib.hid V0
      have HG := Go.Lib.hid hg
      clear V0 hg
      go_wp2_with (first
        | go_skip
        | ((with_reducible refine wlAt 26 rfl ?_); refine wpList_loadall rfl 72 (.tmp 5) rfl (w.heap.size + 1) rfl 64 (blf g) 72 _ Tryd.underlying72 rfl size_ar V.out ?_)
        | ((with_reducible refine wlOp (.store 72 (.tmp 4) (.tmp 26)) rfl ?_); refine wpList_storeall rfl 72 (.tmp 4) (.tmp 26) rfl w.heap.size rfl 64 (blf fun _ => false) (blf g) rfl 72 size_ar Z.out (fun i _ => blf_one _ i) ?_; replace Z := Go.Lib.hid (row_set Z.out (vrow 64 (blf g))); replace hB := Go.Lib.hid (Below_setRow hB.out (Nat.le_refl _) (vrow 64 (blf g)))))
      exact ret_row Tryd.results57 w.heap.size 64 (blf g) 72 _ Tryd.underlying72 rfl size_ar rfl rfl Z.out ⟨by rw [HG.out], hB.out⟩
end Go.Proofs.YthienbbecbakjaaDoor
namespace Go.Proofs.YthienbbecbakjaaDoor
open Go.RowKit
set_option maxRecDepth 100000
set_option linter.unusedVariables false
set_option linter.unusedSimpArgs false
theorem plV_sp (s : Sh) (gl : Nat) (l : List Sp8) (k : Nat) (p : Sp8) : vrow 2 (fun i => plV s gl l k p (0 + i)) = vrow 2 (spAt p.1.1 p.1.2) := vrow_ext _ _ _ fun i hi => by
  have : i = 0 ∨ i = 1 := by omega
  rcases this with rfl | rfl <;> rfl
theorem rw_sltW : (Tryd.prog.underlying 34).map (·.isRow) = some false := by kernel_rfl
theorem rw_fbW : (Tryd.prog.underlying 71).map (·.isRow) = some false := by kernel_rfl
theorem size_fbW : (Tryd.prog.info? 71).map (·.size) = some 1 := by kernel_rfl
theorem rw_arW : (Tryd.prog.underlying 72).map (·.isRow) = some true := by kernel_rfl
theorem blf_row (f : Nat → Bool) : vrow 64 (fun i => blf f (0 + i)) = vrow 64 (blf f) := vrow_ext _ _ _ fun i _ => by rw [Nat.zero_add]
/-- a list's numbers, one by one -/
def atL (M : List Sp8) (g : Sp8 → Bool) (i : Nat) : Bool := if h : i < M.length then g (M[i]'h) else false
theorem anyN_list (M : List Sp8) (g : Sp8 → Bool) : anyN (atL M g) M.length = M.any g := by
  rw [Bool.eq_iff_iff, List.any_eq_true]
  constructor
  · intro h
    obtain ⟨i, hi, hg⟩ := anyN_ex _ h
    unfold atL at hg
    rw [dif_pos hi] at hg
    exact ⟨_, List.getElem_mem hi, hg⟩
  · rintro ⟨q, hq, hg⟩
    obtain ⟨i, hi, rfl⟩ := List.getElem_of_mem hq
    refine anyN_some (i := i) ?_ _ hi
    unfold atL; rw [dif_pos hi]; exact hg
theorem lx_at {M : List Sp8} {i : Nat} (h : i < M.length) : lx M i = (M[i]'h).1.1 := by unfold lx; rw [dif_pos h]
theorem ly_at {M : List Sp8} {i : Nat} (h : i < M.length) : ly M i = (M[i]'h).1.2 := by unfold ly; rw [dif_pos h]
set_option maxHeartbeats 2000000 in
theorem spr1_any (s : Sh) (gl : Nat) (l : List Sp8) (k : Nat) (p : Sp8) (a : Nat → Bool) (ba : Nat) (w : World) (ha : w.heap[ba]? = some (.cells (vrow 64 (blf a)) 72)) : Calls Tryd.prog 58 #[.agg (vrow 3 (plV s gl l k p)), .pointer (some ⟨ba, 0, none⟩)] w fun e w' => e = .returned (.bool (a (pix p))) ∧ Below w.heap.size w w' := by
  have HH := Go.Lib.hid fun w => (arHas_any a p.1.1 p.1.2 w p.2.1 p.2.2)
  rw [show 8 * p.1.2 + p.1.1 = pix p from rfl] at HH
  have P : Hid ((w.alloc (.cells (vrow 3 (plV s gl l k p)) 91)).heap[w.heap.size]? = some (.cells (vrow 3 (plV s gl l k p)) 91)) := heap_at _ _ _ (by simp)
  have Q : Hid ((w.alloc (.cells (vrow 3 (plV s gl l k p)) 91)).heap[ba]? = some (.cells (vrow 64 (blf a)) 72)) := heap_past _ _ _ _ (row_lt ha) ha
  have hB : Hid (Below w.heap.size w (w.alloc (.cells (vrow 3 (plV s gl l k p)) 91))) := Go.Lib.hid ((Below.refl w.heap.size w).alloc (by simp <;> omega) _)
  go_enter Tryd.func58, Tryd.ntmps58
  go_wp2_with (first
    | go_skip
    | ((with_reducible refine wlAt 4 rfl ?_); refine wpList_loadall rfl 72 (.tmp 1) rfl ba rfl 64 (blf a) 72 _ Tryd.underlying72 rfl size_ar Q.out ?_)
    | ((with_reducible refine wlAt 6 rfl ?_); refine wpList_ldm 61 _ rfl (by first | exact want_n rfl | exact want_g _ _ _ rfl rfl rfl) w.heap.size 0 rfl 3 2 (plV s gl l k p) _ rw_spot size_spot P.out (by omega) ?_; rw [plV_sp])
    | (go_at_call 40; (refine (HH.out _).mono ?_); rintro o w1 ⟨rfl, hb⟩; replace hB := Go.Lib.hid (below_next hB.out hb); clear hb))
  go_ret
  exact ⟨rfl, hB.out⟩
set_option maxHeartbeats 2000000 in
theorem inn1_any (a : Nat → Bool) (ba x y : Nat) (w : World) (hx : x < 8) (hy : y < 8) (ha : w.heap[ba]? = some (.cells (vrow 64 (blf a)) 72)) : Calls Tryd.prog 67 #[.agg (vrow 2 (spAt x y)), .pointer (some ⟨ba, 0, none⟩)] w fun e w' => e = .returned (.bool (!a (8 * y + x))) ∧ Below w.heap.size w w' := by
  have HH := Go.Lib.hid fun w => (arHas_any a x y w hx hy)
  have P : Hid ((w.alloc (.cells (vrow 2 (spAt x y)) 61)).heap[w.heap.size]? = some (.cells (vrow 2 (spAt x y)) 61)) := heap_at _ _ _ (by simp)
  have Q : Hid ((w.alloc (.cells (vrow 2 (spAt x y)) 61)).heap[ba]? = some (.cells (vrow 64 (blf a)) 72)) := heap_past _ _ _ _ (row_lt ha) ha
  have hB : Hid (Below w.heap.size w (w.alloc (.cells (vrow 2 (spAt x y)) 61))) := Go.Lib.hid ((Below.refl w.heap.size w).alloc (by simp <;> omega) _)
  go_enter Tryd.func67, Tryd.ntmps67
  go_wp2_with (first
    | go_skip
    | ((with_reducible refine wlAt 4 rfl ?_); refine wpList_loadall rfl 72 (.tmp 1) rfl ba rfl 64 (blf a) 72 _ Tryd.underlying72 rfl size_ar Q.out ?_)
    | ((with_reducible refine wlAt 5 rfl ?_); refine wpList_loadall rfl 61 (.tmp 2) rfl w.heap.size rfl 2 (spAt x y) 61 _ Tryd.underlying61 rfl size_spot P.out ?_)
    | (go_at_call 40; (refine (HH.out _).mono ?_); rintro o w1 ⟨rfl, hb⟩; replace hB := Go.Lib.hid (below_next hB.out hb); clear hb))
  go_ret
  exact ⟨rfl, hB.out⟩
set_option maxHeartbeats 4000000 in
theorem spr2_any (s : Sh) (gl : Nat) (l : List Sp8) (k : Nat) (p : Sp8) (a : Nat → Bool) (bh : Nat) (ao : Option Addr) (w : World) (hh : w.heap[bh]? = some (.cells (vrow 1 fun _ => (.func (.func 40) #[.agg (vrow 64 (blf a))] #[])) 71)) (hbv : plV s gl l k p 2 = .slice ao (nbs s p.1.1 p.1.2 4).length (nbs s p.1.1 p.1.2 4).length) (hsr : SpRow w ao (nbs s p.1.1 p.1.2 4).length (lx (nbs s p.1.1 p.1.2 4)) (ly (nbs s p.1.1 p.1.2 4))) : Calls Tryd.prog 59 #[.agg (vrow 3 (plV s gl l k p)), .pointer (some ⟨bh, 0, none⟩)] w fun e w' => e = .returned (.bool (sprP s a p)) ∧ Below w.heap.size w w' := by
  have hM4 := nbs_len s p.1.1 p.1.2 4
  have hP : Hid ((w.alloc (.cells (vrow 3 (plV s gl l k p)) 91)).heap[w.heap.size]? = some (.cells (vrow 3 (plV s gl l k p)) 91)) := heap_at _ _ _ (by simp)
  have P : Hid ((w.alloc (.cells (vrow 3 (plV s gl l k p)) 91)).heap[w.heap.size]? = some (.cells (vrow 3 (plV s gl l k p)) 91)) := hP
  have Q : Hid ((w.alloc (.cells (vrow 3 (plV s gl l k p)) 91)).heap[bh]? = some (.cells (vrow 1 fun _ => (.func (.func 40) #[.agg (vrow 64 (blf a))] #[])) 71)) := heap_past _ _ _ _ (row_lt hh) hh
  have hB : Hid (Below w.heap.size w (w.alloc (.cells (vrow 3 (plV s gl l k p)) 91))) := Go.Lib.hid ((Below.refl w.heap.size w).alloc (by simp <;> omega) _)
  have HCO := Go.Lib.hid fun (W1 : World) (hW1 : Below w.heap.size w W1) => coF_any (lx (nbs s p.1.1 p.1.2 4)) (ly (nbs s p.1.1 p.1.2 4)) (nbs s p.1.1 p.1.2 4).length (nbs s p.1.1 p.1.2 4).length ao (atL (nbs s p.1.1 p.1.2 4) (fun q => a (pix q))) 40 #[.agg (vrow 64 (blf a))] #[] W1 (by omega) (hsr.next hW1) (fun _ _ => by kernel_rfl) (fun i W hi hW0 => by
    have hW : Below w.heap.size w W := hW1.trans (hW0.mono hW1.size)
    rw [lx_at hi, ly_at hi]
    have e : atL (nbs s p.1.1 p.1.2 4) (fun q => a (pix q)) i = (fun q => a (pix q)) ((nbs s p.1.1 p.1.2 4)[i]'hi) := by unfold atL; rw [dif_pos hi]
    rw [e]
    generalize (nbs s p.1.1 p.1.2 4)[i]'hi = q
    exact arHas_any a q.1.1 q.1.2 W q.2.1 q.2.2)
  rw [anyN_list] at HCO
  have HH0 := fun (W : World) (hW : Below w.heap.size w W) => (arHas_any a p.1.1 p.1.2 W p.2.1 p.2.2)
  rw [show 8 * p.1.2 + p.1.1 = pix p from rfl] at HH0
  have HBV := Go.Lib.hid hbv
  have hSP : sprP s a p = (a (pix p) || (nbs s p.1.1 p.1.2 4).any fun q => a (pix q)) := rfl
  have hIN : innP s a p = (a (pix p) && !((nbs s p.1.1 p.1.2 4).any fun q => !a (pix q))) := rfl
  generalize hany : (nbs s p.1.1 p.1.2 4).any (fun q => a (pix q)) = an at *
  generalize (nbs s p.1.1 p.1.2 4).length = n at *
  cases hap : a (pix p)
  all_goals
    rw [hap] at HH0 hSP hIN
    have HH := Go.Lib.hid HH0
    have HR := Go.Lib.hid (hSP)
    clear HH0 hSP hIN hbv hsr hh
    go_enter Tryd.func59, Tryd.ntmps59
    go_wp2_with (first
      | go_skip
      | ((with_reducible refine wlAt 4 rfl ?_); refine wpList_load1 rfl 71 (.tmp 1) rfl bh 0 rfl 1 (fun _ => (.func (.func 40) #[.agg (vrow 64 (blf a))] #[])) _ _ Tryd.underlying71 rfl Q.out (by omega) ?_)
      | ((with_reducible refine wlAt 6 rfl ?_); refine wpList_ldm 61 _ rfl (by first | exact want_n rfl | exact want_g _ _ _ rfl rfl rfl) w.heap.size 0 rfl 3 2 (plV s gl l k p) _ rw_spot size_spot P.out (by omega) ?_; rw [plV_sp])
      | (go_at_call 40; (refine (HH.out _ hB.out).mono ?_); rintro o w1 ⟨rfl, hb⟩; replace P := Go.Lib.hid (row_next hb P.out); replace Q := Go.Lib.hid (row_next hb Q.out); replace hB := Go.Lib.hid (below_next hB.out hb); clear hb)
      | ((with_reducible refine wlAt 10 rfl ?_); refine wpList_ld1 34 _ rfl (by first | exact want_n rfl | exact want_g _ _ _ rfl rfl rfl) w.heap.size 2 rfl 3 (plV s gl l k p) _ rw_sltW P.out (by omega) ?_; rw [HBV.out])
      | ((with_reducible refine wlAt 11 rfl ?_); refine wpList_ld1 71 _ rfl (by first | exact want_n rfl | exact want_g _ _ _ rfl rfl rfl) bh 0 rfl 1 (fun _ => (.func (.func 40) #[.agg (vrow 64 (blf a))] #[])) _ rw_fbW Q.out (by omega) ?_)
      | (go_at_call 60; (refine (HCO.out _ hB.out).mono ?_); rintro o w2 ⟨rfl, hb⟩; replace hB := Go.Lib.hid (below_next hB.out hb); clear hb))
    go_ret
    exact ⟨by rw [HR.out]; first | rfl | (cases an <;> rfl), hB.out⟩
set_option maxHeartbeats 4000000 in
theorem inn2_any (s : Sh) (gl : Nat) (l : List Sp8) (k : Nat) (p : Sp8) (a : Nat → Bool) (bh : Nat) (ao : Option Addr) (w : World) (ba : Nat) (hba : w.heap[ba]? = some (.cells (vrow 64 (blf a)) 72)) (hh : w.heap[bh]? = some (.cells (vrow 1 fun _ => (.func (.func 67) #[] #[.pointer (some ⟨ba, 0, none⟩)])) 71)) (hbv : plV s gl l k p 2 = .slice ao (nbs s p.1.1 p.1.2 4).length (nbs s p.1.1 p.1.2 4).length) (hsr : SpRow w ao (nbs s p.1.1 p.1.2 4).length (lx (nbs s p.1.1 p.1.2 4)) (ly (nbs s p.1.1 p.1.2 4))) : Calls Tryd.prog 68 #[.agg (vrow 3 (plV s gl l k p)), .pointer (some ⟨bh, 0, none⟩)] w fun e w' => e = .returned (.bool (innP s a p)) ∧ Below w.heap.size w w' := by
  have hM4 := nbs_len s p.1.1 p.1.2 4
  have hP : Hid ((w.alloc (.cells (vrow 3 (plV s gl l k p)) 91)).heap[w.heap.size]? = some (.cells (vrow 3 (plV s gl l k p)) 91)) := heap_at _ _ _ (by simp)
  have P : Hid ((w.alloc (.cells (vrow 3 (plV s gl l k p)) 91)).heap[w.heap.size]? = some (.cells (vrow 3 (plV s gl l k p)) 91)) := hP
  have Q : Hid ((w.alloc (.cells (vrow 3 (plV s gl l k p)) 91)).heap[bh]? = some (.cells (vrow 1 fun _ => (.func (.func 67) #[] #[.pointer (some ⟨ba, 0, none⟩)])) 71)) := heap_past _ _ _ _ (row_lt hh) hh
  have hB : Hid (Below w.heap.size w (w.alloc (.cells (vrow 3 (plV s gl l k p)) 91))) := Go.Lib.hid ((Below.refl w.heap.size w).alloc (by simp <;> omega) _)
  have HCO := Go.Lib.hid fun (W1 : World) (hW1 : Below w.heap.size w W1) => coF_any (lx (nbs s p.1.1 p.1.2 4)) (ly (nbs s p.1.1 p.1.2 4)) (nbs s p.1.1 p.1.2 4).length (nbs s p.1.1 p.1.2 4).length ao (atL (nbs s p.1.1 p.1.2 4) (fun q => !a (pix q))) 67 #[] #[.pointer (some ⟨ba, 0, none⟩)] W1 (by omega) (hsr.next hW1) (fun _ _ => by kernel_rfl) (fun i W hi hW0 => by
    have hW : Below w.heap.size w W := hW1.trans (hW0.mono hW1.size)
    rw [lx_at hi, ly_at hi]
    have e : atL (nbs s p.1.1 p.1.2 4) (fun q => !a (pix q)) i = (fun q => !a (pix q)) ((nbs s p.1.1 p.1.2 4)[i]'hi) := by unfold atL; rw [dif_pos hi]
    rw [e]
    generalize (nbs s p.1.1 p.1.2 4)[i]'hi = q
    exact inn1_any a ba q.1.1 q.1.2 W q.2.1 q.2.2 (row_next hW hba))
  rw [anyN_list] at HCO
  have HH0 := fun (W : World) (hW : Below w.heap.size w W) => (inn1_any a ba p.1.1 p.1.2 W p.2.1 p.2.2 (row_next hW hba))
  rw [show 8 * p.1.2 + p.1.1 = pix p from rfl] at HH0
  have HBV := Go.Lib.hid hbv
  have hSP : sprP s a p = (a (pix p) || (nbs s p.1.1 p.1.2 4).any fun q => a (pix q)) := rfl
  have hIN : innP s a p = (a (pix p) && !((nbs s p.1.1 p.1.2 4).any fun q => !a (pix q))) := rfl
  generalize hany : (nbs s p.1.1 p.1.2 4).any (fun q => !a (pix q)) = an at *
  generalize (nbs s p.1.1 p.1.2 4).length = n at *
  cases hap : a (pix p)
  all_goals
    rw [hap] at HH0 hSP hIN
    have HH := Go.Lib.hid HH0
    have HR := Go.Lib.hid (hIN)
    clear HH0 hSP hIN hbv hsr hh
    go_enter Tryd.func68, Tryd.ntmps68
    go_wp2_with (first
      | go_skip
      | ((with_reducible refine wlAt 4 rfl ?_); refine wpList_load1 rfl 71 (.tmp 1) rfl bh 0 rfl 1 (fun _ => (.func (.func 67) #[] #[.pointer (some ⟨ba, 0, none⟩)])) _ _ Tryd.underlying71 rfl Q.out (by omega) ?_)
      | ((with_reducible refine wlAt 6 rfl ?_); refine wpList_ldm 61 _ rfl (by first | exact want_n rfl | exact want_g _ _ _ rfl rfl rfl) w.heap.size 0 rfl 3 2 (plV s gl l k p) _ rw_spot size_spot P.out (by omega) ?_; rw [plV_sp])
      | (go_at_call 67; (refine (HH.out _ hB.out).mono ?_); rintro o w1 ⟨rfl, hb⟩; replace P := Go.Lib.hid (row_next hb P.out); replace Q := Go.Lib.hid (row_next hb Q.out); replace hB := Go.Lib.hid (below_next hB.out hb); clear hb)
      | ((with_reducible refine wlAt 11 rfl ?_); refine wpList_ld1 34 _ rfl (by first | exact want_n rfl | exact want_g _ _ _ rfl rfl rfl) w.heap.size 2 rfl 3 (plV s gl l k p) _ rw_sltW P.out (by omega) ?_; rw [HBV.out])
      | ((with_reducible refine wlAt 12 rfl ?_); refine wpList_ld1 71 _ rfl (by first | exact want_n rfl | exact want_g _ _ _ rfl rfl rfl) bh 0 rfl 1 (fun _ => (.func (.func 67) #[] #[.pointer (some ⟨ba, 0, none⟩)])) _ rw_fbW Q.out (by omega) ?_)
      | (go_at_call 60; (refine (HCO.out _ hB.out).mono ?_); rintro o w2 ⟨rfl, hb⟩; replace hB := Go.Lib.hid (below_next hB.out hb); clear hb))
    go_ret
    exact ⟨by rw [HR.out]; first | rfl | (cases an <;> rfl), hB.out⟩
end Go.Proofs.YthienbbecbakjaaDoor
namespace Go.Proofs.YthienbbecbakjaaDoor
open Go.RowKit
set_option maxRecDepth 100000
set_option linter.unusedVariables false
set_option linter.unusedSimpArgs false
/-- the program's set behind so many spreads -/
def sprI (s : Sh) (l : List Sp8) (a : Nat → Bool) : Nat → Nat → Bool
  | 0 => plA l fun p => a (pix p)
  | k + 1 => plA l (sprP s (sprI s l a k))
set_option maxHeartbeats 8000000 in
theorem spread_any (s : Sh) (l : List Sp8) (gp gl n : Nat) (f f2 : Nat → Value) (a : Nat → Bool) (w : World) (hn : n ≤ 1048576) (hG : GRow w gp gl s l f f2) : Calls Tryd.prog 38 #[.agg (vrow 64 (blf a)), .slice (some ⟨gp, 0, none⟩) l.length 64, .int .i64 n] w fun e w' => e = .returned (.agg (vrow 64 (blf (sprI s l a n)))) ∧ Below w.heap.size w w' := by
  have hmf : ∀ (fn : Fn) (first cap : Array Value) (w : World), (Instr.makeFunc fn first cap).run Tryd.prog w = .ok (.func fn first cap) w := fun _ _ _ _ => rfl
  have HP1 : Hid (∀ W, GRow W gp gl s l f f2 → W.heap[w.heap.size]? = some (.cells (vrow 64 (blf a)) 72) → Calls Tryd.prog 57 #[.slice (some ⟨gp, 0, none⟩) l.length 64, .func (.func 58) #[] #[.pointer (some ⟨w.heap.size, 0, none⟩)]] W fun e w' => e = .returned (.agg (vrow 64 (blf (plA l fun p => a (pix p))))) ∧ Below W.heap.size W w') :=
    Go.Lib.hid fun W h1 h2 => places_any s l gp gl f f2 (fun p => a (pix p)) 58 #[] #[.pointer (some ⟨w.heap.size, 0, none⟩)] W h1 (fun _ _ => by kernel_rfl) fun k hk X hX => spr1_any s gl l k (l[k]'hk) a w.heap.size X (row_next hX h2)
  have HP2 : Hid (∀ (b : Nat → Bool) (hb : Nat) W, GRow W gp gl s l f f2 → W.heap[hb]? = some (.cells (vrow 1 fun _ => (.func (.func 40) #[.agg (vrow 64 (blf b))] #[])) 71) → Calls Tryd.prog 57 #[.slice (some ⟨gp, 0, none⟩) l.length 64, .func (.func 59) #[] #[.pointer (some ⟨hb, 0, none⟩)]] W fun e w' => e = .returned (.agg (vrow 64 (blf (plA l (sprP s b))))) ∧ Below W.heap.size W w') :=
    Go.Lib.hid fun b hb W h1 h2 => places_any s l gp gl f f2 (sprP s b) 59 #[] #[.pointer (some ⟨hb, 0, none⟩)] W h1 (fun _ _ => by kernel_rfl) fun k hk X hX => by
      obtain ⟨ao, g1, g2⟩ := (h1.nextW hX).besW k hk
      exact spr2_any s gl l k (l[k]'hk) b hb ao X (row_next hX h2) g1 g2
  have ngp := row_lt hG.pl; have ngl := row_lt hG.li
  have za := zero_ar
  have P : Hid (((w.alloc (.cells (vrow 64 (blf a)) 72)).alloc (.cells (vrow 64 (blf fun _ => false)) 72)).heap[w.heap.size]? = some (.cells (vrow 64 (blf a)) 72)) := heap_past _ _ _ _ (by simp <;> omega) (heap_at _ _ _ (by simp))
  have Z : Hid (((w.alloc (.cells (vrow 64 (blf a)) 72)).alloc (.cells (vrow 64 (blf fun _ => false)) 72)).heap[w.heap.size + 1]? = some (.cells (vrow 64 (blf fun _ => false)) 72)) := heap_at _ _ _ (by simp)
  have hB : Hid (Below w.heap.size w ((w.alloc (.cells (vrow 64 (blf a)) 72)).alloc (.cells (vrow 64 (blf fun _ => false)) 72))) := Go.Lib.hid (((Below.refl w.heap.size w).alloc (by simp <;> omega) _).alloc (by simp <;> omega) _)
  have GR := Go.Lib.hid ((hG.allocW (.cells (vrow 64 (blf a)) 72)).allocW (.cells (vrow 64 (blf fun _ => false)) 72))
  have hs0 : sprI s l a 0 = plA l fun p => a (pix p) := rfl
  have hsk : ∀ k, sprI s l a (k + 1) = plA l (sprP s (sprI s l a k)) := fun _ => rfl
  rw [← hs0] at HP1
  clear hs0
  go_enter Tryd.func38, Tryd.ntmps38
  go_wp2_with (first
    | go_skip
    | (go_at_call 57; (refine (HP1.out _ GR.out P.out).mono ?_); rintro o w1 ⟨rfl, hb⟩; replace P := Go.Lib.hid (row_next hb P.out); replace Z := Go.Lib.hid (row_next hb Z.out); replace GR := Go.Lib.hid (GR.out.nextW hb); replace hB := Go.Lib.hid (below_next hB.out hb); clear hb)
    | ((with_reducible refine wlOp (.store 72 (.tmp 3) (.tmp 10)) rfl ?_); refine wpList_storeall rfl 72 (.tmp 3) (.tmp 10) rfl w.heap.size rfl 64 (blf a) (blf (sprI s l a 0)) rfl 72 size_ar P.out (fun i _ => blf_one _ i) ?_; replace P := Go.Lib.hid (row_set P.out (vrow 64 (blf (sprI s l a 0)))); replace Z := Go.Lib.hid (row_set' (g := w.heap.size) (by omega) Z.out (vrow 64 (blf (sprI s l a 0)))); replace GR := Go.Lib.hid (GR.out.setW (g := w.heap.size) (by omega) (by omega) (vrow 64 (blf (sprI s l a 0)))); replace hB := Go.Lib.hid (Below_setRow hB.out (Nat.le_refl _) (vrow 64 (blf (sprI s l a 0))))))
  have p1 := P.out; have z1 := Z.out; have g1 := GR.out; have b1 := hB.out
  clear P Z GR hB HP1
  go_loopw [12] (fun kv wr => ∃ k : Nat, k ≤ n ∧ kv = .int .i64 k ∧ wr.heap[w.heap.size]? = some (.cells (vrow 64 (blf (sprI s l a k))) 72) ∧ wr.heap[w.heap.size + 1]? = some (.cells (vrow 64 (blf fun _ => false)) 72) ∧ GRow wr gp gl s l f f2 ∧ Below w.heap.size w wr) (fun kv _ => n - (intOf kv).toNat)
  case atStart => exact ⟨0, by omega, rfl, p1, z1, g1, b1⟩
  case round =>
    clear p1 z1 g1 b1
    obtain ⟨k, hk, rfl, P, Z, GR, hB⟩ := hrel
    by_cases hlt : k < n
    · have hkI : (k : Int) < (n : Int) := by omega
      have hk0 : (0 : Int) ≤ (k : Int) := by omega
      have hkd : decide ((k : Int) < (n : Int)) = true := by simpa using hkI
      have hst := hsk k
      have HPb := Go.Lib.hid (HP2.out (sprI s l a k))
      rw [← hst] at HPb
      clear hst
      generalize sprI s l a k = b at *
      generalize hc : sprI s l a (k + 1) = c at *
      have HC := Go.Lib.hid hc
      clear hc
      replace P := Go.Lib.hid P; replace Z := Go.Lib.hid Z; replace GR := Go.Lib.hid GR; replace hB := Go.Lib.hid hB
      go_wp2_with (first
        | go_skip
        | ((with_reducible refine wlAt 14 rfl ?_); refine wpList_loadall rfl 72 (.tmp 3) rfl w.heap.size rfl 64 (blf b) 72 _ Tryd.underlying72 rfl size_ar P.out ?_)
        | ((with_reducible refine wlOp (.store 71 (.tmp 7) (.tmp 15)) rfl ?_); refine wpList_store1 rfl 71 (.tmp 7) (.tmp 15) rfl _ 0 rfl 1 (fun _ => .nilFunc) (.func (.func 40) #[.agg (vrow 64 (blf b))] #[]) rfl 71 size_fbW (heap_at _ _ _ rfl) (by omega) rfl ?_; rw [vrow_over_all, setRow_at _ _ _ _ _ rfl]; have V := Go.Lib.hid (heap_at wr (.cells (vrow 1 fun _ => (.func (.func 40) #[.agg (vrow 64 (blf b))] #[])) 71) _ rfl); have nP := row_lt P.out; replace P := Go.Lib.hid (heap_past _ (.cells (vrow 1 fun _ => (.func (.func 40) #[.agg (vrow 64 (blf b))] #[])) 71) _ _ nP P.out); have nZ := row_lt Z.out; replace Z := Go.Lib.hid (heap_past _ (.cells (vrow 1 fun _ => (.func (.func 40) #[.agg (vrow 64 (blf b))] #[])) 71) _ _ nZ Z.out); replace GR := Go.Lib.hid (GR.out.allocW (.cells (vrow 1 fun _ => (.func (.func 40) #[.agg (vrow 64 (blf b))] #[])) 71)); replace hB := Go.Lib.hid (hB.out.alloc hB.out.size (.cells (vrow 1 fun _ => (.func (.func 40) #[.agg (vrow 64 (blf b))] #[])) 71)); generalize wr.heap.size = hb0 at V nP nZ ⊢; generalize wr.alloc _ = w4 at P Z V GR hB ⊢)
        | (go_at_call 57; (refine (HPb.out _ _ GR.out V.out).mono ?_); rintro o w5 ⟨rfl, hb⟩; replace P := Go.Lib.hid (row_next hb P.out); replace Z := Go.Lib.hid (row_next hb Z.out); replace GR := Go.Lib.hid (GR.out.nextW hb); replace hB := Go.Lib.hid (below_next hB.out hb); clear hb)
        | ((with_reducible refine wlOp (.store 72 (.tmp 3) (.tmp 18)) rfl ?_); refine wpList_storeall rfl 72 (.tmp 3) (.tmp 18) rfl w.heap.size rfl 64 (blf b) (blf c) rfl 72 size_ar P.out (fun i _ => blf_one _ i) ?_; replace P := Go.Lib.hid (row_set P.out (vrow 64 (blf c))); replace Z := Go.Lib.hid (row_set' (g := w.heap.size) (by omega) Z.out (vrow 64 (blf c))); replace GR := Go.Lib.hid (GR.out.setW (g := w.heap.size) (by omega) (by omega) (vrow 64 (blf c))); replace hB := Go.Lib.hid (Below_setRow hB.out (Nat.le_refl _) (vrow 64 (blf c)))))
      go_roundw
      case rel => exact ⟨k + 1, by omega, by go_num, by rw [HC.out]; exact P.out, Z.out, GR.out, hB.out⟩
      case measure => simp [intOf]; omega
    · obtain rfl : k = n := by omega
      have hkd : decide ((k : Int) < (k : Int)) = false := by simp
      obtain ⟨b, hbe⟩ : ∃ b, sprI s l a k = b := ⟨_, rfl⟩
      rw [hbe] at P
      have HBE := Go.Lib.hid hbe
      clear hbe
      replace P := Go.Lib.hid P; replace Z := Go.Lib.hid Z; replace hB := Go.Lib.hid hB
      go_wp2_with (first
        | go_skip
        | ((with_reducible refine wlAt 20 rfl ?_); refine wpList_loadall rfl 72 (.tmp 3) rfl w.heap.size rfl 64 (blf b) 72 _ Tryd.underlying72 rfl size_ar P.out ?_)
        | ((with_reducible refine wlOp (.store 72 (.tmp 6) (.tmp 20)) rfl ?_); refine wpList_storeall rfl 72 (.tmp 6) (.tmp 20) rfl (w.heap.size + 1) rfl 64 (blf fun _ => false) (blf b) rfl 72 size_ar Z.out (fun i _ => blf_one _ i) ?_; replace Z := Go.Lib.hid (row_set Z.out (vrow 64 (blf b))); replace hB := Go.Lib.hid (Below_setRow hB.out (show w.heap.size ≤ w.heap.size + 1 by omega) (vrow 64 (blf b)))))
      exact ret_row Tryd.results38 (w.heap.size + 1) 64 (blf b) 72 _ Tryd.underlying72 rfl size_ar rfl rfl Z.out ⟨by rw [HBE.out], hB.out⟩
end Go.Proofs.YthienbbecbakjaaDoor
namespace Go.Proofs.YthienbbecbakjaaDoor
open Go.RowKit
set_option maxRecDepth 100000
set_option linter.unusedVariables false
set_option linter.unusedSimpArgs false
set_option maxHeartbeats 4000000 in
theorem inner_any (s : Sh) (l : List Sp8) (gp gl : Nat) (f f2 : Nat → Value) (a : Nat → Bool) (w : World) (hG : GRow w gp gl s l f f2) : Calls Tryd.prog 43 #[.agg (vrow 64 (blf a)), .slice (some ⟨gp, 0, none⟩) l.length 64] w fun e w' => e = .returned (.agg (vrow 64 (blf (plA l (innP s a))))) ∧ Below w.heap.size w w' := by
  have hmf : ∀ (fn : Fn) (first cap : Array Value) (w : World), (Instr.makeFunc fn first cap).run Tryd.prog w = .ok (.func fn first cap) w := fun _ _ _ _ => rfl
  have HP2 : Hid (∀ (hb : Nat) W, GRow W gp gl s l f f2 → W.heap[w.heap.size]? = some (.cells (vrow 64 (blf a)) 72) → W.heap[hb]? = some (.cells (vrow 1 fun _ => (.func (.func 67) #[] #[.pointer (some ⟨w.heap.size, 0, none⟩)])) 71) → Calls Tryd.prog 57 #[.slice (some ⟨gp, 0, none⟩) l.length 64, .func (.func 68) #[] #[.pointer (some ⟨hb, 0, none⟩)]] W fun e w' => e = .returned (.agg (vrow 64 (blf (plA l (innP s a))))) ∧ Below W.heap.size W w') :=
    Go.Lib.hid fun hb W h1 h0 h2 => places_any s l gp gl f f2 (innP s a) 68 #[] #[.pointer (some ⟨hb, 0, none⟩)] W h1 (fun _ _ => by kernel_rfl) fun k hk X hX => by
      obtain ⟨ao, g1, g2⟩ := (h1.nextW hX).besW k hk
      exact inn2_any s gl l k (l[k]'hk) a hb ao X w.heap.size (row_next hX h0) (row_next hX h2) g1 g2
  have ngp := row_lt hG.pl; have ngl := row_lt hG.li
  have za := zero_ar
  generalize plA l (innP s a) = c at *
  have P : Hid ((((w.alloc (.cells (vrow 64 (blf a)) 72)).alloc (.cells (vrow 64 (blf fun _ => false)) 72)).alloc (.cells (vrow 1 fun _ => .nilFunc) 71)).heap[w.heap.size]? = some (.cells (vrow 64 (blf a)) 72)) := heap_past _ _ _ _ (by simp <;> omega) (heap_past _ _ _ _ (by simp <;> omega) (heap_at _ _ _ (by simp)))
  have Z : Hid ((((w.alloc (.cells (vrow 64 (blf a)) 72)).alloc (.cells (vrow 64 (blf fun _ => false)) 72)).alloc (.cells (vrow 1 fun _ => .nilFunc) 71)).heap[w.heap.size + 1]? = some (.cells (vrow 64 (blf fun _ => false)) 72)) := heap_past _ _ _ _ (by simp <;> omega) (heap_at _ _ _ (by simp))
  have V : Hid ((((w.alloc (.cells (vrow 64 (blf a)) 72)).alloc (.cells (vrow 64 (blf fun _ => false)) 72)).alloc (.cells (vrow 1 fun _ => .nilFunc) 71)).heap[w.heap.size + 1 + 1]? = some (.cells (vrow 1 fun _ => .nilFunc) 71)) := heap_at _ _ _ (by simp)
  have hB : Hid (Below w.heap.size w (((w.alloc (.cells (vrow 64 (blf a)) 72)).alloc (.cells (vrow 64 (blf fun _ => false)) 72)).alloc (.cells (vrow 1 fun _ => .nilFunc) 71))) := Go.Lib.hid ((((Below.refl w.heap.size w).alloc (by simp <;> omega) _).alloc (by simp <;> omega) _).alloc (by simp <;> omega) _)
  have GR := Go.Lib.hid (((hG.allocW (.cells (vrow 64 (blf a)) 72)).allocW (.cells (vrow 64 (blf fun _ => false)) 72)).allocW (.cells (vrow 1 fun _ => .nilFunc) 71))
  go_enter Tryd.func43, Tryd.ntmps43
  go_wp2_with (first
    | go_skip
    | ((with_reducible refine wlOp (.store 71 (.tmp 5) (.tmp 6)) rfl ?_); refine wpList_store1 rfl 71 (.tmp 5) (.tmp 6) rfl (w.heap.size + 1 + 1) 0 rfl 1 (fun _ => .nilFunc) (.func (.func 67) #[] #[.pointer (some ⟨w.heap.size, 0, none⟩)]) rfl 71 size_fbW V.out (by omega) rfl ?_; rw [vrow_over_all]; replace P := Go.Lib.hid (row_set' (g := w.heap.size + 1 + 1) (by omega) P.out (vrow 1 fun _ => (.func (.func 67) #[] #[.pointer (some ⟨w.heap.size, 0, none⟩)]))); replace Z := Go.Lib.hid (row_set' (g := w.heap.size + 1 + 1) (by omega) Z.out (vrow 1 fun _ => (.func (.func 67) #[] #[.pointer (some ⟨w.heap.size, 0, none⟩)]))); replace V := Go.Lib.hid (row_set V.out (vrow 1 fun _ => (.func (.func 67) #[] #[.pointer (some ⟨w.heap.size, 0, none⟩)]))); replace GR := Go.Lib.hid (GR.out.setW (g := w.heap.size + 1 + 1) (by omega) (by omega) (vrow 1 fun _ => (.func (.func 67) #[] #[.pointer (some ⟨w.heap.size, 0, none⟩)]))); replace hB := Go.Lib.hid (Below_setRow hB.out (show w.heap.size ≤ w.heap.size + 1 + 1 by omega) (vrow 1 fun _ => (.func (.func 67) #[] #[.pointer (some ⟨w.heap.size, 0, none⟩)]))))
    | (go_at_call 57; (refine (HP2.out _ _ GR.out P.out V.out).mono ?_); rintro o w5 ⟨rfl, hb⟩; replace P := Go.Lib.hid (row_next hb P.out); replace Z := Go.Lib.hid (row_next hb Z.out); replace GR := Go.Lib.hid (GR.out.nextW hb); replace hB := Go.Lib.hid (below_next hB.out hb); clear hb)
    | ((with_reducible refine wlOp (.store 72 (.tmp 4) (.tmp 9)) rfl ?_); refine wpList_storeall rfl 72 (.tmp 4) (.tmp 9) rfl (w.heap.size + 1) rfl 64 (blf fun _ => false) (blf c) rfl 72 size_ar Z.out (fun i _ => blf_one _ i) ?_; replace Z := Go.Lib.hid (row_set Z.out (vrow 64 (blf c))); replace hB := Go.Lib.hid (Below_setRow hB.out (show w.heap.size ≤ w.heap.size + 1 by omega) (vrow 64 (blf c)))))
  exact ret_row Tryd.results43 (w.heap.size + 1) 64 (blf c) 72 _ Tryd.underlying72 rfl size_ar rfl rfl Z.out ⟨rfl, hB.out⟩
/-- the set of the first spots of a list -/
def mkA (px py : Nat → Int) : Nat → Nat → Bool
  | 0 => fun _ => false
  | k + 1 => setB (mkA px py k) (8 * (py k).toNat + (px k).toNat) true
/-- all spots are cells of the greatest sheet -/
def inB8 (px py : Nat → Int) (n : Nat) : Prop := ∀ i, i < n → ∃ x y : Nat, px i = x ∧ py i = y ∧ x < 8 ∧ y < 8
set_option maxHeartbeats 4000000 in
theorem areaOf_any (px py : Nat → Int) (D n : Nat) (w : World) (hn : n ≤ 1048576) (hin : inB8 px py n) (hd : w.heap[D]? = some (.cells (vrow (n * 2) (spf px py)) 61)) : Calls Tryd.prog 37 #[.slice (some ⟨D, 0, none⟩) n n] w fun e w' => e = .returned (.agg (vrow 64 (blf (mkA px py n)))) ∧ Below w.heap.size w w' := by
  have nd := row_lt hd
  have za := zero_ar
  have zs := zero_sp2
  have Z : Hid (((w.alloc (.cells (vrow 64 (blf fun _ => false)) 72)).alloc (.cells (vrow 64 (blf fun _ => false)) 72)).heap[w.heap.size]? = some (.cells (vrow 64 (blf fun _ => false)) 72)) := heap_past _ _ _ _ (by simp <;> omega) (heap_at _ _ _ (by simp))
  have V : Hid (((w.alloc (.cells (vrow 64 (blf fun _ => false)) 72)).alloc (.cells (vrow 64 (blf fun _ => false)) 72)).heap[w.heap.size + 1]? = some (.cells (vrow 64 (blf fun _ => false)) 72)) := heap_at _ _ _ (by simp)
  have L : Hid (((w.alloc (.cells (vrow 64 (blf fun _ => false)) 72)).alloc (.cells (vrow 64 (blf fun _ => false)) 72)).heap[D]? = some (.cells (vrow (n * 2) (spf px py)) 61)) := heap_past _ _ _ _ (by simp <;> omega) (heap_past _ _ _ _ nd hd)
  have hB : Hid (Below w.heap.size w ((w.alloc (.cells (vrow 64 (blf fun _ => false)) 72)).alloc (.cells (vrow 64 (blf fun _ => false)) 72))) := Go.Lib.hid (((Below.refl w.heap.size w).alloc (by simp <;> omega) _).alloc (by simp <;> omega) _)
  go_enter Tryd.func37, Tryd.ntmps37
  go_wp2
  have z1 := Z.out; have v1 := V.out; have l1 := L.out; have b1 := hB.out
  clear Z V L hB
  go_loopw [8] (fun kv wr => ∃ k : Nat, k ≤ n ∧ kv = .int .i64 k ∧ wr.heap[w.heap.size]? = some (.cells (vrow 64 (blf fun _ => false)) 72) ∧ wr.heap[w.heap.size + 1]? = some (.cells (vrow 64 (blf (mkA px py k))) 72) ∧ wr.heap[D]? = some (.cells (vrow (n * 2) (spf px py)) 61) ∧ Below w.heap.size w wr) (fun kv _ => n - (intOf kv).toNat)
  case atStart => exact ⟨0, by omega, rfl, z1, v1, l1, b1⟩
  case round =>
    clear z1 v1 l1 b1
    obtain ⟨k, hk, rfl, Z, V, L, hB⟩ := hrel
    by_cases hlt : k < n
    · have hkI : (k : Int) < (n : Int) := by omega
      have hk0 : (0 : Int) ≤ (k : Int) := by omega
      have hkd : decide ((k : Int) < (n : Int)) = true := by simpa using hkI
      obtain ⟨x, y, ex, ey, hx, hy⟩ := hin k hlt
      have hst : mkA px py (k + 1) = setB (mkA px py k) (8 * y + x) true := by show setB _ _ _ = _; rw [ex, ey, Int.toNat_natCast, Int.toNat_natCast]
      have hrw := spf_two px py k
      rw [ex, ey] at hrw
      have HR := Go.Lib.hid hrw; have HST := Go.Lib.hid hst
      clear hrw hst ex ey
      generalize mkA px py k = g at *
      have hxI : (x : Int) < 8 := by omega
      have hyI : (y : Int) < 8 := by omega
      replace Z := Go.Lib.hid Z; replace V := Go.Lib.hid V; replace L := Go.Lib.hid L; replace hB := Go.Lib.hid hB
      go_wp2_with (first
        | go_skip
        | ((with_reducible refine wlAt 11 rfl ?_); refine wpList_loadmid rfl 61 (.tmp 10) rfl D (k * 2) rfl (n * 2) 2 (spf px py) 61 _ Tryd.underlying61 rfl size_spot L.out (by omega) ?_; rw [HR.out])
        | ((with_reducible refine wlOp (.store 61 (.tmp 5) (.tmp 11)) rfl ?_); refine wpList_storeall rfl 61 (.tmp 5) (.tmp 11) rfl _ rfl 2 (spAt 0 0) (spAt x y) rfl 61 size_spot (heap_at _ _ _ rfl) (fun i _ => spAt_one _ _ i) ?_; rw [setRow_at _ _ _ _ _ rfl]; have X := Go.Lib.hid (heap_at wr (.cells (vrow 2 (spAt x y)) 61) _ rfl); have nZ := row_lt Z.out; replace Z := Go.Lib.hid (heap_past _ (.cells (vrow 2 (spAt x y)) 61) _ _ nZ Z.out); have nV := row_lt V.out; replace V := Go.Lib.hid (heap_past _ (.cells (vrow 2 (spAt x y)) 61) _ _ nV V.out); have nL := row_lt L.out; replace L := Go.Lib.hid (heap_past _ (.cells (vrow 2 (spAt x y)) 61) _ _ nL L.out); replace hB := Go.Lib.hid (hB.out.alloc hB.out.size (.cells (vrow 2 (spAt x y)) 61)); generalize wr.heap.size = xb at X nZ nV nL ⊢; generalize wr.alloc _ = w4 at Z V L X hB ⊢))
      refine wp_region_still_tail 6 (by kernel_rfl) (by kernel_rfl) ?_
      simp only [List.take_succ_cons, List.take_zero, List.drop_succ_cons, List.drop_zero, World.drew_eq]
      repeat (first
        | (refine wpStill_load1 rfl 22 (.tmp 12) rfl xb 1 rfl 2 (spAt x y) _ _ Tryd.underlying22 rfl X.out (by omega) ?_; rw [spAt_1]; simp only [Act.put, List.setIfInBounds_toArray, List.set_cons_succ, List.set_cons_zero])
        | (refine wpStill_load1 rfl 22 (.tmp 14) rfl xb 0 rfl 2 (spAt x y) _ _ Tryd.underlying22 rfl X.out (by omega) ?_; rw [spAt_0]; simp only [Act.put, List.setIfInBounds_toArray, List.set_cons_succ, List.set_cons_zero])
        | still_step
        | (refine wpStill_step (fun K hK => ?_); go_simp; simp only [hxI, hyI, if_true]; go_simp; refine hK _ ?_; clear hK K))
      refine wpStill_nil ?_
      refine wpList_store1 rfl 4 (.tmp 17) (.const (.bool true)) rfl (w.heap.size + 1) (y * 8 + x) rfl 64 (blf g) (.bool true) rfl 72 size_bool8 V.out (by omega) rfl ?_
      rw [blf_set, Nat.mul_comm y 8]
      have Z2 := row_set' (w := w4.drew) (g := w.heap.size + 1) (by omega) Z.out (vrow 64 (blf (setB g (8 * y + x) true)))
      have L2 := row_set' (w := w4.drew) (g := w.heap.size + 1) (by omega) L.out (vrow 64 (blf (setB g (8 * y + x) true)))
      have V2 := row_set (w := w4.drew) V.out (vrow 64 (blf (setB g (8 * y + x) true)))
      have hB2 := Below_setRow hB.out.drew (show w.heap.size ≤ w.heap.size + 1 by omega) (vrow 64 (blf (setB g (8 * y + x) true)))
      clear Z V L X hB
      generalize World.setRow w4.drew _ _ = w9 at Z2 L2 V2 hB2 ⊢
      go_wp2
      go_roundw
      case rel => exact ⟨k + 1, by omega, by go_num, Z2, by rw [HST.out]; exact V2, L2, hB2⟩
      case measure => simp [intOf]; omega
    · obtain rfl : k = n := by omega
      have hkd : decide ((k : Int) < (k : Int)) = false := by simp
      obtain ⟨g, hg⟩ : ∃ g, mkA px py k = g := ⟨_, rfl⟩
      rw [hg] at V
      have HG := Go.Lib.hid hg
      clear hg
      replace Z := Go.Lib.hid Z; replace V := Go.Lib.hid V; replace hB := Go.Lib.hid hB
      go_wp2_with (first
        | go_skip
        | ((with_reducible refine wlAt 19 rfl ?_); refine wpList_loadall rfl 72 (.tmp 3) rfl (w.heap.size + 1) rfl 64 (blf g) 72 _ Tryd.underlying72 rfl size_ar V.out ?_)
        | ((with_reducible refine wlOp (.store 72 (.tmp 2) (.tmp 19)) rfl ?_); refine wpList_storeall rfl 72 (.tmp 2) (.tmp 19) rfl w.heap.size rfl 64 (blf fun _ => false) (blf g) rfl 72 size_ar Z.out (fun i _ => blf_one _ i) ?_; replace Z := Go.Lib.hid (row_set Z.out (vrow 64 (blf g))); replace hB := Go.Lib.hid (Below_setRow hB.out (Nat.le_refl _) (vrow 64 (blf g)))))
      exact ret_row Tryd.results37 w.heap.size 64 (blf g) 72 _ Tryd.underlying72 rfl size_ar rfl rfl Z.out ⟨by rw [HG.out], hB.out⟩
end Go.Proofs.YthienbbecbakjaaDoor
