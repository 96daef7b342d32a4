import Derived.Deep.RegionHeld3
import Derived.Test.YthienbbecbakjaaDoorVE
import Derived.Test.YthienbbecbakjaaDoorLpP
import Derived.Test.YthienbbecbakjaaDoorQT
namespace Go.Proofs.YthienbbecbakjaaDoor
open Go.RowKit
set_option maxRecDepth 100000
set_option linter.unusedVariables false
set_option linter.unusedSimpArgs false
set_option maxHeartbeats 2000000 in
theorem lps_bad (s : Sh) (D n k : Nat) (px py : Nat → Int) (w : World) (hk : k = 1 ∨ k = 2 ∨ k = 4) (h2 : w.heap[D]? = some (.cells (vrow (n * 2) (spf px py)) 61)) (HA0 : ∀ b w, w.heap[b]? = some (.cells (vrow 266 s.at) 37) → w.heap[D]? = some (.cells (vrow (n * 2) (spf px py)) 61) → Calls Tryd.prog 44 #[.pointer (some ⟨b, 0, none⟩), .slice (some ⟨D, 0, none⟩) n n] w fun e w' => e = .returned (.int .i64 k) ∧ Below w.heap.size w w') : Calls Tryd.prog 22 #[.agg s.row, .slice (some ⟨D, 0, none⟩) n n] w fun e w' => e = .returned (.tuple #[.int .i64 0, .int .i64 k]) ∧ Below w.heap.size w w' := by
  have HA := Go.Lib.hid HA0
  clear HA0
  have hk1 : ((k : Int) == 0) = false := by rcases hk with rfl | rfl | rfl <;> rfl
  have hk2 : (!((k : Int) == 0)) = true := by rw [hk1]; rfl
  have hk3 : ((k : Int) != 0) = true := by rcases hk with rfl | rfl | rfl <;> rfl
  have P : Hid ((w.alloc (.cells (vrow 266 s.at) 37)).heap[w.heap.size]? = some (.cells (vrow 266 s.at) 37)) := heap_at _ _ _ (by simp)
  have L : Hid ((w.alloc (.cells (vrow 266 s.at) 37)).heap[D]? = some (.cells (vrow (n * 2) (spf px py)) 61)) := heap_past _ _ _ _ (row_lt h2) h2
  have hB : Hid (Below w.heap.size w (w.alloc (.cells (vrow 266 s.at) 37))) := Go.Lib.hid ((Below.refl w.heap.size w).alloc (by simp <;> omega) _)
  clear h2
  have zb := zero_b88
  go_enter Tryd.func22, Tryd.ntmps22
  go_wp2_with (first
    | go_skip
    | (go_at_call 44; (refine (HA.out _ _ P.out L.out).mono ?_); rintro o w1 ⟨rfl, hb⟩; replace P := Go.Lib.hid (row_next hb P.out); replace L := Go.Lib.hid (row_next hb L.out); replace hB := Go.Lib.hid (below_next hB.out hb); clear hb))
  go_ret2
  exact ⟨rfl, hB.out⟩
set_option maxHeartbeats 8000000 in
theorem lps_ok (s : Sh) (D n : Nat) (px py : Nat → Int) (f : Nat → Bool) (w : World) (hn : n ≤ 1048576) (hf : s.fit) (ho : okI s = true) (hin : insL s px py n = true) (hfe : mkA px py n = f) (h2 : w.heap[D]? = some (.cells (vrow (n * 2) (spf px py)) 61)) (HA0 : ∀ b w, w.heap[b]? = some (.cells (vrow 266 s.at) 37) → w.heap[D]? = some (.cells (vrow (n * 2) (spf px py)) 61) → Calls Tryd.prog 44 #[.pointer (some ⟨b, 0, none⟩), .slice (some ⟨D, 0, none⟩) n n] w fun e w' => e = .returned (.int .i64 0) ∧ Below w.heap.size w w') : Calls Tryd.prog 22 #[.agg s.row, .slice (some ⟨D, 0, none⟩) n n] w fun e w' => e = .returned (.tuple #[.int .i64 (upTo (pastM s f) 16 0), .int .i64 0]) ∧ Below w.heap.size w w' := by
  have HA := Go.Lib.hid HA0
  have HM : Hid (∀ w, w.heap[D]? = some (.cells (vrow (n * 2) (spf px py)) 61) → Calls Tryd.prog 45 #[.slice (some ⟨D, 0, none⟩) n n] w fun e w' => e = .returned (.agg (vrow 64 (blf f))) ∧ Below w.heap.size w w') := Go.Lib.hid fun w h2 => by have h := lmask_any px py D n w hn (insL_in8 ho hin) h2; rw [hfe] at h; exact h
  have HIN := Go.Lib.hid fun (k b bi : Nat) w h1 h2 => (show Calls Tryd.prog 41 #[.pointer (some ⟨b, 0, none⟩), .pointer (some ⟨bi, 0, none⟩)] w fun e w' => e = .returned (.agg (vrow 64 (blf (insM s f (k + 1))))) ∧ Below w.heap.size w w' from linn_any s b bi (insM s f k) w ho hf h1 h2)
  have HSP := Go.Lib.hid fun (g : Nat → Bool) (k b bi : Nat) w h1 h2 => (show Calls Tryd.prog 26 #[.pointer (some ⟨b, 0, none⟩), .pointer (some ⟨bi, 0, none⟩)] w fun e w' => e = .returned (.agg (vrow 64 (blf (itM s g (k + 1))))) ∧ Below w.heap.size w w' from lspr_any s b bi (itM s g k) w ho hf h1 h2)
  have hpast : ∀ k, eqS (itM s (insM s f (k + 1)) (k + 1)) f = pastM s f k := fun _ => rfl
  have hi0 : insM s f 0 = f := rfl
  have ht0 : ∀ g, itM s g 0 = g := fun _ => rfl
  have hg : Tryd.prog.eqGuardType Tryd.prog.depth 52 = false := by kernel_rfl
  clear HA0 hfe ho hf hin
  obtain ⟨N, hN⟩ : ∃ N, upTo (pastM s f) 16 0 = N := ⟨_, rfl⟩
  rw [hN]
  have HN := Go.Lib.hid hN
  clear hN
  have P : Hid ((w.alloc (.cells (vrow 266 s.at) 37)).heap[w.heap.size]? = some (.cells (vrow 266 s.at) 37)) := heap_at _ _ _ (by simp)
  have L : Hid ((w.alloc (.cells (vrow 266 s.at) 37)).heap[D]? = some (.cells (vrow (n * 2) (spf px py)) 61)) := heap_past _ _ _ _ (row_lt h2) h2
  have hB : Hid (Below w.heap.size w (w.alloc (.cells (vrow 266 s.at) 37))) := Go.Lib.hid ((Below.refl w.heap.size w).alloc (by simp <;> omega) _)
  clear h2
  have zb := zero_b88
  go_enter Tryd.func22, Tryd.ntmps22
  go_wp2_with (first
    | go_skip
    | (go_at_call 44; (refine (HA.out _ _ P.out L.out).mono ?_); rintro o w1 ⟨rfl, hb⟩; replace P := Go.Lib.hid (row_next hb P.out); replace L := Go.Lib.hid (row_next hb L.out); replace hB := Go.Lib.hid (below_next hB.out hb); clear hb)
    | (go_at_call 45; (refine (HM.out _ L.out).mono ?_); rintro o w2 ⟨rfl, hb⟩; replace P := Go.Lib.hid (row_next hb P.out); replace L := Go.Lib.hid (row_next hb L.out); replace hB := Go.Lib.hid (below_next hB.out hb); clear hb L)
    | ((with_reducible refine wlOp (.store 52 (.tmp 7) (.tmp 18)) rfl ?_); refine wpList_storeall rfl 52 (.tmp 7) (.tmp 18) rfl _ rfl 64 (blf fun _ => false) (blf f) rfl 52 size_b88 (heap_at _ _ _ rfl) (fun i _ => blf_one _ i) ?_; rw [setRow_at _ _ _ _ _ rfl]; have V := Go.Lib.hid (heap_at w2 (.cells (vrow 64 (blf f)) 52) _ rfl); have nP := row_lt P.out; replace P := Go.Lib.hid (heap_past _ (.cells (vrow 64 (blf f)) 52) _ _ nP P.out); have hsvb := hB.out.size; replace hB := Go.Lib.hid (hB.out.alloc hB.out.size (.cells (vrow 64 (blf f)) 52)); generalize w2.heap.size = vb at V nP hsvb ⊢; generalize w2.alloc _ = w2x at V P hB ⊢)
    | ((with_reducible refine wlAt 19 rfl ?_); refine wpList_loadall rfl 52 (.tmp 7) rfl _ rfl 64 (blf f) 52 _ Tryd.underlying52 rfl size_b88 V.out ?_)
    | ((with_reducible refine wlOp (.store 52 (.tmp 8) (.tmp 19)) rfl ?_); refine wpList_storeall rfl 52 (.tmp 8) (.tmp 19) rfl _ rfl 64 (blf fun _ => false) (blf f) rfl 52 size_b88 (heap_at _ _ _ rfl) (fun i _ => blf_one _ i) ?_; rw [setRow_at _ _ _ _ _ rfl]; have I := Go.Lib.hid (heap_at w2x (.cells (vrow 64 (blf f)) 52) _ rfl); have nP := row_lt P.out; replace P := Go.Lib.hid (heap_past _ (.cells (vrow 64 (blf f)) 52) _ _ nP P.out); have nV := row_lt V.out; replace V := Go.Lib.hid (heap_past _ (.cells (vrow 64 (blf f)) 52) _ _ nV V.out); have hsib := hB.out.size; replace hB := Go.Lib.hid (hB.out.alloc hB.out.size (.cells (vrow 64 (blf f)) 52)); generalize w2x.heap.size = ib at I nP nV hsib ⊢; generalize w2x.alloc _ = w2xx at I P V hB ⊢))
  have p1 := P.out; have v1 := V.out; have i1 := I.out; have b1 := hB.out
  rw [← hi0] at i1
  have hvi : vb ≠ ib := by omega
  have hpi : w.heap.size ≠ ib := by omega
  have hib : w.heap.size ≤ ib := by omega
  clear P V I hB hi0 HA HM
  go_loopw [9] (fun kv wr => ∃ k : Nat, k ≤ 16 ∧ kv = .int .i64 ((k : Int) + 1) ∧ upTo (pastM s f) (16 - k) k = N ∧ wr.heap[w.heap.size]? = some (.cells (vrow 266 s.at) 37) ∧ wr.heap[vb]? = some (.cells (vrow 64 (blf f)) 52) ∧ wr.heap[ib]? = some (.cells (vrow 64 (blf (insM s f k))) 52) ∧ Below w.heap.size w wr) (fun kv _ => 17 - (intOf kv).toNat)
  case atStart => exact ⟨0, by omega, rfl, HN.out, p1, v1, i1, b1⟩
  case round =>
    clear p1 v1 i1 b1
    obtain ⟨k, hk, rfl, hU, P, V, I, hB⟩ := hrel
    have HU := Go.Lib.hid hU
    clear hU
    by_cases hlt : k < 16
    · have hkd : decide ((k : Int) + 1 ≤ 16) = true := by simp; omega
      have hk0 : (0 : Int) ≤ (k : Int) := by omega
      have hkI : (k : Int) < 16 := by omega
      have HI := Go.Lib.hid fun b bi w h1 h2 => HIN.out k b bi w h1 h2
      have HS := Go.Lib.hid fun j b bi w h1 h2 => HSP.out (insM s f (k + 1)) j b bi w h1 h2
      have hp := hpast k
      obtain ⟨q, hq⟩ : ∃ q, itM s (insM s f (k + 1)) (k + 1) = q := ⟨_, rfl⟩
      rw [hq] at hp
      obtain ⟨c, hc⟩ : ∃ c, insM s f (k + 1) = c := ⟨_, rfl⟩
      obtain ⟨b, hb0⟩ : ∃ b, insM s f k = b := ⟨_, rfl⟩
      rw [hc] at HI HS hq
      rw [hb0] at I HI
      have HQ := Go.Lib.hid hq
      have HC := Go.Lib.hid hc
      obtain ⟨bb, hbb⟩ : ∃ bb, eqS q f = bb := ⟨_, rfl⟩
      have HEQ : ∀ w : World, (Op.equal 52 (.agg (vrow 64 (blf q))) (.agg (vrow 64 (blf f)))).run Tryd.prog w = .ok (eqS q f) w := fun w => eq88_any _ q f w
      rw [hbb] at HEQ
      have HPB := Go.Lib.hid (hp.symm.trans hbb)
      clear hp hbb hc hb0 hq
      have htc := ht0 c
      replace P := Go.Lib.hid P; replace I := Go.Lib.hid I; replace V := Go.Lib.hid V; replace hB := Go.Lib.hid hB
      go_wp2_with (first
        | go_skip
        | (go_at_call 41; (refine (HI.out _ _ _ P.out I.out).mono ?_); rintro o w5 ⟨rfl, hb⟩; replace P := Go.Lib.hid (row_next hb P.out); replace I := Go.Lib.hid (row_next hb I.out); replace V := Go.Lib.hid (row_next hb V.out); replace hB := Go.Lib.hid (below_next hB.out hb); clear hb)
        | ((with_reducible refine wlOp (.store 52 (.tmp 8) (.tmp 24)) rfl ?_); refine wpList_storeall rfl 52 (.tmp 8) (.tmp 24) rfl ib rfl 64 (blf b) (blf c) rfl 52 size_b88 I.out (fun i _ => blf_one _ i) ?_; replace P := Go.Lib.hid (row_set' (g := ib) hpi P.out (vrow 64 (blf c))); replace V := Go.Lib.hid (row_set' (g := ib) hvi V.out (vrow 64 (blf c))); replace I := Go.Lib.hid (row_set I.out (vrow 64 (blf c))); replace hB := Go.Lib.hid (Below_setRow hB.out hib (vrow 64 (blf c))); generalize World.setRow _ _ _ = w6 at P V I hB ⊢)
        | ((with_reducible refine wlAt 25 rfl ?_); refine wpList_loadall rfl 52 (.tmp 8) rfl ib rfl 64 (blf c) 52 _ Tryd.underlying52 rfl size_b88 I.out ?_)
        | ((with_reducible refine wlOp (.store 52 (.tmp 10) (.tmp 25)) rfl ?_); refine wpList_storeall rfl 52 (.tmp 10) (.tmp 25) rfl _ rfl 64 (blf fun _ => false) (blf c) rfl 52 size_b88 (heap_at _ _ _ rfl) (fun i _ => blf_one _ i) ?_; rw [setRow_at _ _ _ _ _ rfl]; have O := Go.Lib.hid (heap_at w6 (.cells (vrow 64 (blf c)) 52) _ rfl); have nP := row_lt P.out; replace P := Go.Lib.hid (heap_past _ (.cells (vrow 64 (blf c)) 52) _ _ nP P.out); have nV := row_lt V.out; replace V := Go.Lib.hid (heap_past _ (.cells (vrow 64 (blf c)) 52) _ _ nV V.out); have nI := row_lt I.out; replace I := Go.Lib.hid (heap_past _ (.cells (vrow 64 (blf c)) 52) _ _ nI I.out); have hsob := hB.out.size; replace hB := Go.Lib.hid (hB.out.alloc hB.out.size (.cells (vrow 64 (blf c)) 52)); generalize w6.heap.size = ob at O nP nV nI hsob ⊢; generalize w6.alloc _ = w6x at O P V I hB ⊢))
      have p1 := P.out; have v1 := V.out; have i1 := I.out; have b1 := hB.out; have u1 := O.out
      rw [← htc] at u1
      have hpo : w.heap.size ≠ ob := by omega
      have hvo : vb ≠ ob := by omega
      have hio : ib ≠ ob := by omega
      have hwo : w.heap.size ≤ ob := by omega
      clear P V I hB O htc
      go_loopw [11] (fun jv wz => ∃ j : Nat, j ≤ k + 1 ∧ jv = .int .i64 j ∧ wz.heap[w.heap.size]? = some (.cells (vrow 266 s.at) 37) ∧ wz.heap[vb]? = some (.cells (vrow 64 (blf f)) 52) ∧ wz.heap[ib]? = some (.cells (vrow 64 (blf c)) 52) ∧ wz.heap[ob]? = some (.cells (vrow 64 (blf (itM s c j))) 52) ∧ Below w.heap.size w wz) (fun jv _ => 17 - (intOf jv).toNat)
      case atStart => exact ⟨0, by omega, rfl, p1, v1, i1, u1, b1⟩
      case round =>
        clear p1 v1 i1 u1 b1
        obtain ⟨j, hj, rfl, P, V, I, O, hB⟩ := hrel
        by_cases hlj : j < k + 1
        · have hjI : (j : Int) < (k : Int) + 1 := by omega
          have hj0 : (0 : Int) ≤ (j : Int) := by omega
          have hjd : decide ((j : Int) < (k : Int) + 1) = true := by simpa using hjI
          have HSj := Go.Lib.hid fun b bi w h1 h2 => HS.out j b bi w h1 h2
          obtain ⟨d, hd⟩ : ∃ d, itM s c (j + 1) = d := ⟨_, rfl⟩
          obtain ⟨e0, he0⟩ : ∃ e0, itM s c j = e0 := ⟨_, rfl⟩
          rw [hd, he0] at HSj
          rw [he0] at O
          have HD := Go.Lib.hid hd
          clear hd he0
          replace P := Go.Lib.hid P; replace I := Go.Lib.hid I; replace V := Go.Lib.hid V; replace O := Go.Lib.hid O; replace hB := Go.Lib.hid hB
          go_wp2_with (first
            | go_skip
            | (go_at_call 26; (refine (HSj.out _ _ _ P.out O.out).mono ?_); rintro o w7 ⟨rfl, hb⟩; replace O := Go.Lib.hid (row_next hb O.out); replace P := Go.Lib.hid (row_next hb P.out); replace I := Go.Lib.hid (row_next hb I.out); replace V := Go.Lib.hid (row_next hb V.out); replace hB := Go.Lib.hid (below_next hB.out hb); clear hb)
            | ((with_reducible refine wlOp (.store 52 (.tmp 10) (.tmp 31)) rfl ?_); refine wpList_storeall rfl 52 (.tmp 10) (.tmp 31) rfl ob rfl 64 (blf e0) (blf d) rfl 52 size_b88 O.out (fun i _ => blf_one _ i) ?_; replace P := Go.Lib.hid (row_set' (g := ob) hpo P.out (vrow 64 (blf d))); replace V := Go.Lib.hid (row_set' (g := ob) hvo V.out (vrow 64 (blf d))); replace I := Go.Lib.hid (row_set' (g := ob) hio I.out (vrow 64 (blf d))); replace O := Go.Lib.hid (row_set O.out (vrow 64 (blf d))); replace hB := Go.Lib.hid (Below_setRow hB.out hwo (vrow 64 (blf d))); generalize World.setRow _ _ _ = w8 at P V I O hB ⊢))
          go_roundw
          case rel => exact ⟨j + 1, by omega, by go_num, P.out, V.out, I.out, by rw [HD.out]; exact O.out, hB.out⟩
          case measure => simp [intOf]; omega
        · obtain rfl : j = k + 1 := by omega
          have hjd : decide (((k + 1 : Nat) : Int) < (k : Int) + 1) = false := by simp
          rw [HQ.out] at O
          replace P := Go.Lib.hid P; replace I := Go.Lib.hid I; replace V := Go.Lib.hid V; replace O := Go.Lib.hid O; replace hB := Go.Lib.hid hB
          go_wp2_with (first
            | go_skip
            | ((with_reducible refine wlAt 32 rfl ?_); refine wpList_loadall rfl 52 (.tmp 10) rfl ob rfl 64 (blf q) 52 _ Tryd.underlying52 rfl size_b88 O.out ?_)
            | ((with_reducible refine wlAt 33 rfl ?_); refine wpList_loadall rfl 52 (.tmp 7) rfl vb rfl 64 (blf f) 52 _ Tryd.underlying52 rfl size_b88 V.out ?_; refine Shut.out ?_))
          refine (id ?_ : Shut _)
          unfold Shut
          unfold wpList Oper.wp
          simp only [execOp, Go.binOp, HEQ, eqGuard, hg, Act.eval]
          go_simp
          left
          have p1 := P.out; have v1 := V.out; have i1 := I.out; have b1 := hB.out
          clear O HEQ HS HI P I V hB
          cases bb
          · go_wp2
            go_ret2
            refine ⟨?_, b1⟩
            have h1 := HU.out
            rw [show 16 - k = (15 - k) + 1 by omega, upTo_no HPB.out] at h1
            subst h1
            rfl
          · go_wp2
            go_roundw
            case rel =>
              refine ⟨k + 1, by omega, by go_num, ?_, p1, v1, by rw [HC.out]; exact i1, b1⟩
              have h1 := HU.out
              rw [show 16 - k = (16 - (k + 1)) + 1 by omega, upTo_yes HPB.out] at h1
              exact h1
            case measure => simp [intOf]; omega
    · obtain rfl : k = 16 := by omega
      have hd : decide (((16 : Nat) : Int) + 1 ≤ 16) = false := by simp
      go_wp2
      go_ret2
      exact ⟨by rw [← HU.out]; rfl, hB⟩
end Go.Proofs.YthienbbecbakjaaDoor
