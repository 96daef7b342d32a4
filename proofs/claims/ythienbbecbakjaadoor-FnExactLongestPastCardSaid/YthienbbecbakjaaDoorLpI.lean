import Derived.Deep.RegionHeld3
import Derived.Test.YthienbbecbakjaaDoorLpP
import Derived.Test.YthienbbecbakjaaDoorVE
namespace Go.Proofs.YthienbbecbakjaaDoor
open Go.RowKit
set_option maxRecDepth 100000
set_option linter.unusedVariables false
set_option linter.unusedSimpArgs false
set_option maxHeartbeats 8000000 in
theorem lp_any (s : Sh) (l : List Sp8) (gp gl : Nat) (f f2 : Nat → Value) (a : Nat → Bool) (w : World) (hG : GRow w gp gl s l f f2) : Calls Tryd.prog 48 #[.agg (vrow 64 (blf a)), .slice (some ⟨gp, 0, none⟩) l.length 64] w fun e w' => e = .returned (.int .i64 (upTo (pastP s l a) 16 0)) ∧ Below w.heap.size w w' := by
  have HIN := Go.Lib.hid fun g w hG => inner_any s l gp gl f f2 g w hG
  have HSP : Hid (∀ (k : Nat) (r : Nat → Bool) w, k < 16 → GRow w gp gl s l f f2 → Calls Tryd.prog 38 #[.agg (vrow 64 (blf r)), .slice (some ⟨gp, 0, none⟩) l.length 64, .int .i64 ((k : Int) + 1)] w fun e w' => e = .returned (.agg (vrow 64 (blf (sprI s l r (k + 1))))) ∧ Below w.heap.size w w') := Go.Lib.hid fun k r w hk hG => spread_any s l gp gl (k + 1) f f2 r w (by omega) hG
  obtain ⟨N, hN⟩ : ∃ N, upTo (pastP s l a) 16 0 = N := ⟨_, rfl⟩
  rw [hN]
  have HN := Go.Lib.hid hN
  clear hN
  have ngp := row_lt hG.pl; have ngl := row_lt hG.li
  have P : Hid ((w.alloc (.cells (vrow 64 (blf a)) 72)).heap[w.heap.size]? = some (.cells (vrow 64 (blf a)) 72)) := heap_at _ _ _ (by simp)
  have hB : Hid (Below w.heap.size w (w.alloc (.cells (vrow 64 (blf a)) 72))) := Go.Lib.hid ((Below.refl w.heap.size w).alloc (by simp <;> omega) _)
  have GR := Go.Lib.hid (hG.allocW (.cells (vrow 64 (blf a)) 72))
  have hg : Tryd.prog.eqGuardType Tryd.prog.depth 72 = false := by kernel_rfl
  have za := zero_ar
  have hs1 : (w.alloc (.cells (vrow 64 (blf a)) 72)).heap.size = w.heap.size + 1 := by simp
  replace hs1 := Go.Lib.hid hs1
  go_enter Tryd.func48, Tryd.ntmps48
  go_wp2_with (first
    | go_skip
    | ((with_reducible refine wlAt 7 rfl ?_); generalize w.alloc (.cells (vrow 64 (blf a)) 72) = w1 at P GR hB hs1 ⊢; refine wpList_loadall rfl 72 (.tmp 2) rfl _ rfl 64 (blf a) 72 _ Tryd.underlying72 rfl size_ar P.out ?_)
    | ((with_reducible refine wlOp (.store 72 (.tmp 5) (.tmp 7)) rfl ?_); refine wpList_storeall rfl 72 (.tmp 5) (.tmp 7) rfl _ rfl 64 (blf fun _ => false) (blf a) rfl 72 size_ar (heap_at _ _ _ rfl) (fun i _ => blf_one _ i) ?_; rw [setRow_at _ _ _ _ _ rfl]; have I := Go.Lib.hid (heap_at w1 (.cells (vrow 64 (blf a)) 72) _ rfl); have nP := row_lt P.out; replace P := Go.Lib.hid (heap_past _ (.cells (vrow 64 (blf a)) 72) _ _ nP P.out); replace GR := Go.Lib.hid (GR.out.allocW (.cells (vrow 64 (blf a)) 72)); replace hB := Go.Lib.hid (hB.out.alloc hB.out.size (.cells (vrow 64 (blf a)) 72)); generalize w1.heap.size = ib at I nP ⊢; generalize w1.alloc _ = w2 at I P GR hB ⊢))
  have p1 := P.out; have i1 := I.out; have g1 := GR.out; have b1 := hB.out
  have hi0 : insP s l a 0 = a := rfl
  rw [← hi0] at i1
  have hpast : ∀ k, eqS (sprI s l (insP s l a (k + 1)) (k + 1)) a = pastP s l a k := fun _ => rfl
  have hins : ∀ k, plA l (innP s (insP s l a k)) = insP s l a (k + 1) := fun _ => rfl
  clear P I GR hB hi0 hs1
  go_loopw [8] (fun kv wr => ∃ k : Nat, k ≤ 16 ∧ kv = .int .i64 k ∧ upTo (pastP s l a) (16 - k) k = N ∧ wr.heap[w.heap.size]? = some (.cells (vrow 64 (blf a)) 72) ∧ wr.heap[ib]? = some (.cells (vrow 64 (blf (insP s l a k))) 72) ∧ GRow wr gp gl s l f f2 ∧ Below w.heap.size w wr) (fun kv _ => 16 - (intOf kv).toNat)
  case atStart => exact ⟨0, by omega, rfl, HN.out, p1, i1, g1, b1⟩
  case round =>
    clear p1 i1 g1 b1
    obtain ⟨k, hk, rfl, hU, P, I, GR, hB⟩ := hrel
    by_cases hlt : k < 16
    · have hkI : (k : Int) < 16 := by omega
      have hk0 : (0 : Int) ≤ (k : Int) := by omega
      have hwr : IntKind.i64.wrap ((k : Int) + 1) = (k : Int) + 1 := IntWalk.i64_in _ (by omega)
      have hp := hpast k
      have HI := Go.Lib.hid fun w hG => HIN.out (insP s l a k) w hG
      rw [hins k] at HI
      have HIE := Go.Lib.hid (show insP s l a k = insP s l a k from rfl)
      have HS := Go.Lib.hid fun w hG => HSP.out k (insP s l a (k + 1)) w hlt hG
      obtain ⟨q, hq⟩ : ∃ q, sprI s l (insP s l a (k + 1)) (k + 1) = q := ⟨_, rfl⟩
      rw [hq] at HS hp
      obtain ⟨c, hc⟩ : ∃ c, insP s l a (k + 1) = c := ⟨_, rfl⟩
      obtain ⟨b, hb0⟩ : ∃ b, insP s l a k = b := ⟨_, rfl⟩
      rw [hc] at HS HI
      rw [hb0] at HI I
      have HC := Go.Lib.hid hc
      clear hc hb0 hq HIE
      have HU := Go.Lib.hid hU
      obtain ⟨bb, hbb⟩ : ∃ bb, eqS q a = bb := ⟨_, rfl⟩
      have HEQ : ∀ w : World, (Op.equal 72 (.agg (vrow 64 (blf q))) (.agg (vrow 64 (blf a)))).run Tryd.prog w = .ok (eqS q a) w := fun w => eqar_any _ q a w
      rw [hbb] at HEQ
      have HPB := Go.Lib.hid (hp.symm.trans hbb)
      clear hp hbb hU
      replace P := Go.Lib.hid P; replace I := Go.Lib.hid I; replace GR := Go.Lib.hid GR; replace hB := Go.Lib.hid hB
      go_wp2_with (first
        | go_skip
        | ((with_reducible refine wlAt 11 rfl ?_); refine wpList_loadall rfl 72 (.tmp 5) rfl ib rfl 64 (blf b) 72 _ Tryd.underlying72 rfl size_ar I.out ?_)
        | (go_at_call 43; (refine (HI.out _ GR.out).mono ?_); rintro o w5 ⟨rfl, hb⟩; replace P := Go.Lib.hid (row_next hb P.out); replace I := Go.Lib.hid (row_next hb I.out); replace GR := Go.Lib.hid (GR.out.nextW hb); replace hB := Go.Lib.hid (below_next hB.out hb); clear hb)
        | ((with_reducible refine wlOp (.store 72 (.tmp 5) (.tmp 13)) rfl ?_); refine wpList_storeall rfl 72 (.tmp 5) (.tmp 13) rfl ib rfl 64 (blf b) (blf c) rfl 72 size_ar I.out (fun i _ => blf_one _ i) ?_; have q1 := gr_ne1A GR.out I.out; have q2 := gr_ne2A GR.out I.out; replace P := Go.Lib.hid (row_set' (g := ib) (by omega) P.out (vrow 64 (blf c))); replace I := Go.Lib.hid (row_set I.out (vrow 64 (blf c))); replace GR := Go.Lib.hid (GR.out.setW (g := ib) q1 q2 (vrow 64 (blf c))); replace hB := Go.Lib.hid (Below_setRow hB.out (show w.heap.size ≤ ib by omega) (vrow 64 (blf c))); clear q1 q2; generalize World.setRow _ _ _ = w6 at P I GR hB ⊢))
      (try simp only [Act.put])
      refine wp_region_noPanic ?_
      refine wp_region_held_drew (S := fun X => X.heap[w.heap.size]? = some (.cells (vrow 64 (blf a)) 72) ∧ X.heap[ib]? = some (.cells (vrow 64 (blf c)) 72) ∧ GRow X gp gl s l f f2 ∧ Below w.heap.size w X) (by kernel_rfl) ⟨drwP P.out, drwP I.out, GR.out.drewW, hB.out.drew⟩ (fun hH => ?_)
      clear hB P I GR
      generalize World.drew _ = Wd at hH ⊢
      refine wpAnyH_take (i := 0) (v := (.agg (vrow 64 (blf c)))) rfl (by kernel_rfl) (by kernel_rfl) (by kernel_rfl) (fun _ _ _ h => h) (yields_row (by kernel_rfl) 72 _ rfl ib rfl 64 (blf c) 72 _ Tryd.underlying72 rfl size_ar (fun _ h => h.2.1)) hH ?_
      (try simp only [List.getElem_toArray, List.getElem_cons_succ, List.getElem_cons_zero, Act.put, List.setIfInBounds_toArray, List.set_cons_succ, List.set_cons_zero])
      refine wpAnyH_take (i := 1) (v := (.slice (some ⟨gp, 0, none⟩) l.length 64)) rfl (by kernel_rfl) (by kernel_rfl) (by kernel_rfl) (fun _ _ _ h => h) (.inl ⟨by kernel_rfl, fun w _ => by go_simp⟩) hH ?_
      (try simp only [List.getElem_toArray, List.getElem_cons_succ, List.getElem_cons_zero, Act.put, List.setIfInBounds_toArray, List.set_cons_succ, List.set_cons_zero])
      refine wpAnyH_take (i := 2) (v := (.int .i64 k)) rfl (by kernel_rfl) (by kernel_rfl) (by kernel_rfl) (fun _ _ _ h => h) (.inl ⟨by kernel_rfl, fun w _ => by go_simp⟩) hH ?_
      (try simp only [List.getElem_toArray, List.getElem_cons_succ, List.getElem_cons_zero, Act.put, List.setIfInBounds_toArray, List.set_cons_succ, List.set_cons_zero])
      refine wpAnyH_take (i := 3) (v := (.int .i64 ((k : Int) + 1))) rfl (by kernel_rfl) (by kernel_rfl) (by kernel_rfl) (fun _ _ _ h => h) (.inl ⟨by kernel_rfl, fun w _ => by go_simp <;> exact hwr⟩) hH ?_
      (try simp only [List.getElem_toArray, List.getElem_cons_succ, List.getElem_cons_zero, Act.put, List.setIfInBounds_toArray, List.set_cons_succ, List.set_cons_zero])
      refine wpAnyH_take (i := 5) (v := (.agg (vrow 64 (blf a)))) rfl (by kernel_rfl) (by kernel_rfl) (by kernel_rfl) (fun _ _ _ h => h) (yields_row (by kernel_rfl) 72 _ rfl w.heap.size rfl 64 (blf a) 72 _ Tryd.underlying72 rfl size_ar (fun _ h => h.1)) hH ?_
      (try simp only [List.getElem_toArray, List.getElem_cons_succ, List.getElem_cons_zero, Act.put, List.setIfInBounds_toArray, List.set_cons_succ, List.set_cons_zero])
      refine wpAnyH_ready (rs := [4]) (by kernel_rfl) (by simp) (AllReadyH.cons rfl (fun K hK => ?_) AllReadyH.nil)
      rw [if_pos (by kernel_rfl)]
      go_simp
      go_at_call 38
      refine (HS.out _ hH.2.2.1).mono ?_
      rintro o X4 ⟨rfl, hb⟩
      have hH1 : X4.heap[w.heap.size]? = some (.cells (vrow 64 (blf a)) 72) ∧ X4.heap[ib]? = some (.cells (vrow 64 (blf c)) 72) ∧ GRow X4 gp gl s l f f2 ∧ Below w.heap.size w X4 := ⟨row_next hb hH.1, row_next hb hH.2.1, hH.2.2.1.nextW hb, hH.2.2.2.trans (hb.mono hH.2.2.2.size)⟩
      clear hH hb
      refine hK.out _ _ hH1 (fun hH => ?_)
      clear hK K hH1
      (try simp only [List.getElem_toArray, List.getElem_cons_succ, List.getElem_cons_zero, Act.put, List.setIfInBounds_toArray, List.set_cons_succ, List.set_cons_zero])
      refine wpAnyH_take (i := 6) (v := (.bool (!bb))) rfl (by kernel_rfl) (by kernel_rfl) (by kernel_rfl) (fun _ _ _ h => h) (.inl ⟨by kernel_rfl, fun w _ => by simp [execOp, Go.binOp, HEQ, eqGuard, hg, Act.eval]⟩) hH ?_
      (try simp only [List.getElem_toArray, List.getElem_cons_succ, List.getElem_cons_zero, Act.put, List.setIfInBounds_toArray, List.set_cons_succ, List.set_cons_zero])
      refine wpAnyH_done (by kernel_rfl) ?_ _
      refine NoPanic.normal ?_
      (try simp only [List.getElem_toArray, List.getElem_cons_succ, List.getElem_cons_zero, Act.put, List.setIfInBounds_toArray, List.set_cons_succ, List.set_cons_zero])
      obtain ⟨p1, i1, g1, b1⟩ := hH
      clear HEQ HS HI
      cases bb
      · go_wp2
        go_ret
        refine ⟨?_, b1⟩
        have h1 := HU.out
        rw [show 16 - k = (15 - k) + 1 by omega, upTo_no HPB.out] at h1
        subst h1
        rfl
      · go_wp2
        go_roundw
        case rel =>
          refine ⟨k + 1, by omega, by go_num, ?_, p1, by rw [HC.out]; exact i1, g1, b1⟩
          have h1 := HU.out
          rw [show 16 - k = (16 - (k + 1)) + 1 by omega, upTo_yes HPB.out] at h1
          exact h1
        case measure => simp [intOf]; omega
    · obtain rfl : k = 16 := by omega
      have hd : decide ((16 : Int) < 16) = false := by simp
      have HU := Go.Lib.hid hU
      go_wp2
      go_ret
      exact ⟨by rw [← HU.out]; rfl, hB⟩
end Go.Proofs.YthienbbecbakjaaDoor
