import Derived.Deep.RegionHeld3
import Derived.Test.YthienbbecbakjaaDoorNext
import Derived.Test.YthienbbecbakjaaDoorClos
namespace Go.Proofs.YthienbbecbakjaaDoor
open Go.RowKit
set_option maxRecDepth 100000
set_option linter.unusedVariables false
set_option linter.unusedSimpArgs false
set_option linter.unusedSimpArgs false
open Go.RowKit
theorem mk_next {s : Sh} {x y : Nat} {k : Nat} (hok : okI s = true) (h : freeB s (nextX x k) (nextY y k) = true) : ((mk8 (nextX x k).toNat (nextY y k).toNat).1.1 : Int) = nextX x k ∧ ((mk8 (nextX x k).toNat (nextY y k).toNat).1.2 : Int) = nextY y k := by
  unfold freeB at h
  simp only [Bool.and_eq_true] at h
  obtain ⟨u, v, hu, hv, hu8, hv8⟩ := ok_has s hok _ _ h.1
  rw [hu, hv, Int.toNat_natCast, Int.toNat_natCast, mk8_x hu8 hv8]
  exact ⟨rfl, rfl⟩
theorem next_bd (x y k : Nat) (hx : x < 8) (hy : y < 8) : (-128 ≤ nextX x k ∧ nextX x k ≤ 127) ∧ (-128 ≤ nextY y k ∧ nextY y k ≤ 127) := by
  unfold nextX nextY
  split <;> omega
set_option maxHeartbeats 4000000 in
theorem beside_any (s : Sh) (b x y : Nat) (w : World) (hs : w.heap[b]? = some (.cells s.row 37)) (hf : s.fit) (hx : x < 8) (hy : y < 8) (hok : okI s = true) : Calls Tryd.prog 52 #[.pointer (some ⟨b, 0, none⟩), .agg (vrow 2 (spAt x y))] w fun e w' => ∃ v, e = .returned v ∧ Owns w' (w.heap.size + 1) v (nbs s x y 4) ∧ Below w.heap.size w w' := by
  obtain ⟨i0, hi, hz0, hz1, hz2⟩ := info_parts info_spot
  have hbs := row_lt hs
  have zs := zero_spot
  have HN := Go.Lib.hid fun k w hk => next_any x y k w hx hy hk
  have HFr := Go.Lib.hid fun k w hs => free_any s b (nextX x k) (nextY y k) w hs hf (next_bd x y k hx hy).1 (next_bd x y k hx hy).2 hok
  have HMk := Go.Lib.hid fun k h => mk_next (s := s) (x := x) (y := y) (k := k) hok h
  clear hf
  have hB : Hid (Below w.heap.size w (w.alloc (.cells (vrow 2 (spAt x y)) 61))) := ((Below.refl w.heap.size w).alloc (by simp <;> omega) _)
  have R : Hid ((w.alloc (.cells (vrow 2 (spAt x y)) 61)).heap[(w.heap.size)]? = some (.cells (vrow 2 (spAt x y)) 61)) := heap_at _ _ _ (by simp)
  have P : Hid ((w.alloc (.cells (vrow 2 (spAt x y)) 61)).heap[b]? = some (.cells (vrow 266 s.at) 37)) := heap_past _ _ _ _ (by first | (have := row_lt hs; omega) | (have := row_lt hs; simp <;> omega)) (hs)
  go_enter Tryd.func52, Tryd.ntmps52
  go_wp2
  have O0 : ((w.alloc (.cells (vrow 2 (spAt x y)) 61)).alloc (.cells #[] 61)).ownsRow (w.heap.size + 1) 61 2 (.slice (some ⟨w.heap.size + 1, 0, none⟩) 0 0) 0 [] := by
    have h := World.ownsRow_made (base := w.heap.size + 1) (e := 61) (size := 2) (w.alloc (.cells (vrow 2 (spAt x y)) 61)) #[] 0 (by simp) (by decide) rfl
    simpa using h
  have P0 := heap_past _ (.cells #[] 61) _ _ (row_lt P.out) P.out
  have R0 := heap_past _ (.cells #[] 61) _ _ (row_lt R.out) R.out
  have B0 := hB.out.alloc hB.out.size (.cells #[] 61)
  generalize hW : (w.alloc _).alloc _ = W0 at P0 R0 O0 B0 ⊢
  clear hW P R hB
  go_loopw [5, 6] (fun ov kv wr => ∃ k : Nat, k ≤ 4 ∧ kv = .int .i64 k ∧ wr.ownsRow (w.heap.size + 1) 61 2 ov (nbs s x y k).length (vals (nbs s x y k)) ∧ Below w.heap.size w wr ∧ wr.heap[b]? = some (.cells (vrow 266 s.at) 37) ∧ wr.heap[w.heap.size]? = some (.cells (vrow 2 (spAt x y)) 61)) (fun _ kv _ => 4 - (intOf kv).toNat)
  case atStart => exact ⟨0, by omega, rfl, by simpa [nbs, vals] using O0, B0, P0, R0⟩
  case round =>
    clear P0 R0 O0 B0
    obtain ⟨k, hk, rfl, hO, hB0, hP, hR⟩ := hrel
    have O := Go.Lib.hid hO; have hB := Go.Lib.hid hB0; have P := Go.Lib.hid hP; have R := Go.Lib.hid hR
    have hsz := hB.out.size
    clear hO hP hB0 hR
    have hvs : ∀ p q, (vrow 2 (spAt p q)).size = 2 := fun _ _ => vrow_size _ _
    by_cases hlt : k < 4
    · have hkd : decide ((k : Int) < 4) = true := by simp; omega
      have hnl := nbs_len s x y k
      have hfr := HFr.out k
      have hmk := HMk.out k
      have hnx := HN.out k
      have hst : nbs s x y (k + 1) = nbs s x y k ++ (if freeB s (nextX x k) (nextY y k) then [mk8 (nextX x k).toNat (nextY y k).toNat] else []) := rfl
      generalize nextX x k = p at *
      generalize nextY y k = q at *
      have HNX := Go.Lib.hid hnx; have HFR := Go.Lib.hid hfr; have HST := Go.Lib.hid hst
      clear hnx hfr hst
      cases hfb : freeB s p q
      · rw [hfb] at HFR HST
        clear hmk hfb
        go_wp2_with (first
          | (refine wpList_loadall rfl 61 (.tmp 3) rfl _ rfl 2 (spAt x y) 61 _ Tryd.underlying61 rfl size_spot R.out ?_)
          | (refine wpList_loadall rfl 61 (.tmp 7) rfl _ rfl 2 (spAt p q) 61 _ Tryd.underlying61 rfl size_spot WA.out ?_)
          | (go_at_call 70; (refine (HNX.out _ hlt).mono ?_; rintro e w1 ⟨rfl, hb⟩; have hG := grown_next (grown_refl wr none) hb; replace O := Go.Lib.hid (O.out.kept hG (by cases hv : Value.ownBlock _ <;> simp)); replace P := Go.Lib.hid (row_next hb P.out); replace R := Go.Lib.hid (row_next hb R.out); replace hB := Go.Lib.hid (below_next hB.out hb); have hs1 := hB.out.size; clear hb hG))
          | (refine wpList_storeall rfl 61 (.tmp 7) (.tmp 15) rfl _ rfl 2 (spAt 0 0) (spAt p q) rfl 61 size_spot (heap_at _ _ _ rfl) (fun i _ => spAt_one _ _ i) ?_; rw [setRow_at _ _ _ _ _ rfl]; have WA := Go.Lib.hid (heap_at w1 (.cells (vrow 2 (spAt p q)) 61) _ rfl); replace P := Go.Lib.hid (heap_past _ (.cells (vrow 2 (spAt p q)) 61) _ _ (row_lt P.out) P.out); replace R := Go.Lib.hid (heap_past _ (.cells (vrow 2 (spAt p q)) 61) _ _ (row_lt R.out) R.out); replace O := Go.Lib.hid (O.out.alloc (.cells (vrow 2 (spAt p q)) 61)); replace hB := Go.Lib.hid (hB.out.alloc hs1 (.cells (vrow 2 (spAt p q)) 61)); generalize hbw : w1.heap.size = bw at WA hs1 ⊢; generalize w1.alloc _ = W1 at R P O WA hB ⊢)
          | (go_at_call 71; (refine (HFR.out _ P.out).mono ?_; rintro e w2 ⟨rfl, hb⟩; have hG := grown_next (grown_refl W1 none) hb; replace O := Go.Lib.hid (O.out.kept hG (by cases hv : Value.ownBlock _ <;> simp)); replace P := Go.Lib.hid (row_next hb P.out); replace R := Go.Lib.hid (row_next hb R.out); replace WA := Go.Lib.hid (row_next hb WA.out); replace hB := Go.Lib.hid (below_next hB.out hb); have hs2 := hB.out.size; clear hb hG)))
        go_roundw
        case rel => exact ⟨k + 1, by omega, by go_num, by rw [HST.out]; simpa using O.out, hB.out, P.out, R.out⟩
        case measure => simp [intOf]; omega
      · rw [hfb] at HFR HST
        obtain ⟨hm1, hm2⟩ := hmk hfb
        clear hmk hfb
        go_wp2_with (first
          | (refine wpList_loadall rfl 61 (.tmp 3) rfl _ rfl 2 (spAt x y) 61 _ Tryd.underlying61 rfl size_spot R.out ?_)
          | (refine wpList_loadall rfl 61 (.tmp 7) rfl _ rfl 2 (spAt p q) 61 _ Tryd.underlying61 rfl size_spot WA.out ?_)
          | (go_at_call 70; (refine (HNX.out _ hlt).mono ?_; rintro e w1 ⟨rfl, hb⟩; have hG := grown_next (grown_refl wr none) hb; replace O := Go.Lib.hid (O.out.kept hG (by cases hv : Value.ownBlock _ <;> simp)); replace P := Go.Lib.hid (row_next hb P.out); replace R := Go.Lib.hid (row_next hb R.out); replace hB := Go.Lib.hid (below_next hB.out hb); have hs1 := hB.out.size; clear hb hG))
          | (refine wpList_storeall rfl 61 (.tmp 7) (.tmp 15) rfl _ rfl 2 (spAt 0 0) (spAt p q) rfl 61 size_spot (heap_at _ _ _ rfl) (fun i _ => spAt_one _ _ i) ?_; rw [setRow_at _ _ _ _ _ rfl]; have WA := Go.Lib.hid (heap_at w1 (.cells (vrow 2 (spAt p q)) 61) _ rfl); replace P := Go.Lib.hid (heap_past _ (.cells (vrow 2 (spAt p q)) 61) _ _ (row_lt P.out) P.out); replace R := Go.Lib.hid (heap_past _ (.cells (vrow 2 (spAt p q)) 61) _ _ (row_lt R.out) R.out); replace O := Go.Lib.hid (O.out.alloc (.cells (vrow 2 (spAt p q)) 61)); replace hB := Go.Lib.hid (hB.out.alloc hs1 (.cells (vrow 2 (spAt p q)) 61)); generalize hbw : w1.heap.size = bw at WA hs1 ⊢; generalize w1.alloc _ = W1 at R P O WA hB ⊢)
          | (go_at_call 71; (refine (HFR.out _ P.out).mono ?_; rintro e w2 ⟨rfl, hb⟩; have hG := grown_next (grown_refl W1 none) hb; replace O := Go.Lib.hid (O.out.kept hG (by cases hv : Value.ownBlock _ <;> simp)); replace P := Go.Lib.hid (row_next hb P.out); replace R := Go.Lib.hid (row_next hb R.out); replace WA := Go.Lib.hid (row_next hb WA.out); replace hB := Go.Lib.hid (below_next hB.out hb); have hs2 := hB.out.size; clear hb hG))
          | (at_builtin; refine wpList_append_own _ rfl (.tmp 19) (.tmp 21) 34 rfl (w.heap.size + 1) 61 i0 (.agg #[.int .i8 0, .int .i8 0]) 2 2 Tryd.underlying34 hi hz0 hz1 hz2 rfl (by decide) _ _ _ rfl (O.out.alloc _) ⟨w2.heap.size, 0, none⟩ 1 1 [.int .i8 p, .int .i8 q] rfl rfl (World.news_of_block (heap_at _ _ _ rfl)) (by simp [Value.oneCell']) (by simp only [maxLen]; omega) (by omega) (by simp; omega) ?_; intro v' w3 hown' hgrow _))
        have hsz3 : w.heap.size ≤ w2.heap.size := hs2
        have B1 : Below w.heap.size w w3 := (hB.out.alloc hsz3 _).grown hgrow (by simp; omega) (fun q hq => by have := (O.out.lt q hq).1; omega)
        have R1 : w3.heap[w.heap.size]? = some (.cells (vrow 2 (spAt x y)) 61) := (hgrow.block w.heap.size (by have := row_lt R.out; simp; omega) (fun e => by have := (O.out.lt w.heap.size e.symm).1; omega)).trans (heap_past _ _ _ _ (row_lt R.out) R.out)
        have hval : vals (nbs s x y (k + 1)) = vals (nbs s x y k) ++ [.int .i8 p, .int .i8 q] := by rw [HST.out, if_pos (by simp), vals_app, vals_one, hm1, hm2]
        have hlen : (nbs s x y (k + 1)).length = (nbs s x y k).length + 1 := by rw [HST.out, if_pos (by simp), List.length_append]; rfl
        have P1 : w3.heap[b]? = some (.cells (vrow 266 s.at) 37) := (hgrow.block b (by have := row_lt P.out; simp; omega) (fun e => by have := (O.out.lt b e.symm).1; omega)).trans (heap_past _ _ _ _ (row_lt P.out) P.out)
        go_roundw
        case rel => exact ⟨k + 1, by omega, by go_num, by rw [hval, hlen]; exact hown', B1, P1, R1⟩
        case measure => simp [intOf]; omega
    · obtain rfl : k = 4 := by omega
      have hkd : decide (((4 : Nat) : Int) < 4) = false := by simp
      go_wp2
      go_ret
      exact ⟨_, rfl, ⟨O.out⟩, hB.out⟩
end Go.Proofs.YthienbbecbakjaaDoor
