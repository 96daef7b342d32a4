import Derived.Deep.RegionHeld3
import Derived.Test.YtflmkhjleifbbaaDoorG1
import Derived.Test.YtflmkhjleifbbaaDoorIndex
import Derived.Test.YtflmkhjleifbbaaDoorDryM
import Derived.Test.YtflmkhjleifbbaaDoorBeside
import Derived.Test.YtflmkhjleifbbaaDoorGive
import Derived.Test.YtflmkhjleifbbaaDoorQT
namespace Go.Proofs.YtflmkhjleifbbaaDoor
open Go.RowKit
set_option maxRecDepth 100000
set_option linter.unusedVariables false
set_option linter.unusedSimpArgs false
theorem Owns.any {w : World} {base : Nat} {v : Value} {l : List Sp8} (h : Owns w base v l) : ∃ ptr g cap f, v = .slice ptr l.length cap ∧ (0 < l.length → ptr = some ⟨g, 0, none⟩ ∧ base ≤ g ∧ l.length ≤ cap ∧ w.heap[g]? = some (.cells (vrow (cap * 2) f) 42) ∧
    ∀ (i : Nat) (hi : i < l.length), f (i * 2) = .int .i8 (l[i]'hi).1.1 ∧ f (i * 2 + 1) = .int .i8 (l[i]'hi).1.2) := by
  by_cases hl : l.length = 0
  · obtain ⟨b0, cap0, hsv⟩ := h.nil_cases hl
    rcases hsv with rfl | rfl
    · exact ⟨_, 0, _, fun _ => undef, by rw [hl], fun h => absurd h (by omega)⟩
    · exact ⟨_, 0, _, fun _ => undef, by rw [hl], fun h => absurd h (by omega)⟩
  · obtain ⟨g, cap, f, hv, hg, hcap, hO, hf⟩ := h.row (by omega)
    exact ⟨_, g, cap, f, hv, fun _ => ⟨rfl, hg, hcap, hO, hf⟩⟩
set_option maxHeartbeats 8000000 in
theorem ldry_any (B : Sh) (b a c : Nat) (w : World) (hs : w.heap[b]? = some (.cells (vrow 266 B.at) 34)) (ea : B.wide = a) (ec : B.high = c) (ha : 1 ≤ a ∧ a ≤ 8) (hc : 1 ≤ c ∧ c ≤ 8) (hok : okI B = true) (hi : InkOk B) (hf : B.fit) : Calls Tryd.prog 42 #[.pointer (some ⟨b, 0, none⟩)] w fun e w' => e = .returned (.tuple #[.agg ((cellsL a c).foldl (cellDry B B) (B, 0)).1.row, .int .i64 ((cellsL a c).foldl (cellDry B B) (B, 0)).2]) ∧ Below w.heap.size w w' := by
  have HSp := Go.Lib.hid fun b w hs => spots_any B b a c w hs ea ec ha.2 hc.2
  have hgd := Gd.start hok hi hf
  have hn : (cellsL a c).length = a * c := cellsL_length a c
  have hac : 1 ≤ a * c ∧ a * c ≤ 64 := ⟨Nat.mul_le_mul ha.1 hc.1, Nat.mul_le_mul ha.2 hc.2⟩
  rw [← hn] at hac
  have HTK := Go.Lib.hid fun k => dry_take hgd (cellsL_pix a c ha.2 hc.2) k
  generalize cellsL a c = L at *
  clear hn ea ec ha hc
  have hbs := row_lt hs
  have zz := zero_sheet
  have hB : Hid (Below w.heap.size w ((w.alloc (.cells (vrow 266 Sh.zero.at) 34)).alloc (.cells (vrow 266 B.at) 34))) := (((Below.refl w.heap.size w).alloc (by simp <;> omega) _).alloc (by simp <;> omega) _)
  have SB0 : Hid ((w.alloc (.cells (vrow 266 Sh.zero.at) 34)).heap[b]? = some (.cells (vrow 266 B.at) 34)) := heap_past _ _ _ _ hbs hs
  have SB : Hid (((w.alloc (.cells (vrow 266 Sh.zero.at) 34)).alloc (.cells (vrow 266 B.at) 34)).heap[b]? = some (.cells (vrow 266 B.at) 34)) := heap_past _ _ _ _ (by simp <;> omega) SB0.out
  have Z : Hid (((w.alloc (.cells (vrow 266 Sh.zero.at) 34)).alloc (.cells (vrow 266 B.at) 34)).heap[w.heap.size]? = some (.cells (vrow 266 Sh.zero.at) 34)) := heap_past _ _ _ _ (by simp) (heap_at _ _ _ rfl)
  have O : Hid (((w.alloc (.cells (vrow 266 Sh.zero.at) 34)).alloc (.cells (vrow 266 B.at) 34)).heap[w.heap.size + 1]? = some (.cells (vrow 266 B.at) 34)) := heap_at _ _ _ (by simp)
  replace hs := Go.Lib.hid hs
  go_enter Tryd.func42, Tryd.ntmps42
  go_wp2_with (first
    | go_skip
    | ((with_reducible refine wlAt 14 rfl ?_); refine wpList_loadall rfl 34 (.tmp 13) rfl b rfl 266 B.at 34 _ Tryd.underlying34 rfl size_sheet SB0.out ?_)
    | ((with_reducible refine wlOp (.store 34 (.tmp 4) (.tmp 14)) rfl ?_); refine wpList_storeall rfl 34 (.tmp 4) (.tmp 14) rfl (w.heap.size + 1) rfl 266 Sh.zero.at B.at rfl 34 size_sheet (heap_at _ _ _ (by simp)) (fun i _ => Sh.one _ i) ?_; rw [setRow_at _ _ _ _ _ (by simp)])
    | (go_at_call 31; (refine (HSp.out _ _ SB.out).mono ?_; rintro e w1 ⟨v, rfl, hO, hb⟩; replace SB := Go.Lib.hid (row_next hb SB.out); replace Z := Go.Lib.hid (row_next hb Z.out); replace O := Go.Lib.hid (row_next hb O.out); replace hB := Go.Lib.hid (below_next hB.out hb))))
  have hbg := hb.size
  obtain ⟨g, cap, f, rfl, hg, hcap, hO2, hf2⟩ := hO.row (by omega)
  have G := Go.Lib.hid hO2; have HF := Go.Lib.hid hf2
  have hgB : w.heap.size + 2 ≤ g := by simp at hg; omega
  clear hO hO2 hf2 hb hbg hg SB0
  obtain ⟨wo, hwo⟩ : ∃ wo : World, wo = w1 := ⟨_, rfl⟩
  rw [← hwo] at SB Z O hB G ⊢
  clear hwo w1
  go_loopw [5, 7] (fun nv iv wr => ∃ k : Nat, k ≤ L.length ∧ iv = .int .i64 k ∧ nv = .int .i64 ((L.take k).foldl (cellDry B B) (B, 0)).2 ∧ wr.heap[b]? = some (.cells (vrow 266 B.at) 34) ∧ wr.heap[w.heap.size]? = some (.cells (vrow 266 Sh.zero.at) 34) ∧ wr.heap[w.heap.size + 1]? = some (.cells (vrow 266 ((L.take k).foldl (cellDry B B) (B, 0)).1.at) 34) ∧ wr.heap[g]? = some (.cells (vrow (cap * 2) f) 42) ∧ Below w.heap.size w wr) (fun _ iv _ => L.length - (intOf iv).toNat)
  case atStart => exact ⟨0, by omega, rfl, rfl, SB.out, Z.out, O.out, G.out, hB.out⟩
  case round =>
    clear SB Z O G hB
    obtain ⟨k, hk, rfl, rfl, SB, Z, O, G, hB⟩ := hrel
    obtain ⟨hdr, hwk⟩ := HTK.out k
    have hlen : (L.take k).length ≤ 64 := by rw [List.length_take]; omega
    replace SB := Go.Lib.hid SB; replace Z := Go.Lib.hid Z; replace O := Go.Lib.hid O; replace G := Go.Lib.hid G; replace hB := Go.Lib.hid hB
    by_cases hlt : k < L.length
    · have hst : (L.take (k + 1)).foldl (cellDry B B) (B, 0) = cellDry B B ((L.take k).foldl (cellDry B B) (B, 0)) (L[k]'hlt) := by
        rw [List.take_succ_eq_append_getElem hlt, List.foldl_append]; rfl
      replace hwk := hwk hlt
      have HFk := HF.out k hlt
      have HR := Go.Lib.hid (row_spot f (k * 2) (L[k]'hlt) HFk)
      have hlb := loss_bd (s := B) (B := B) (p := L[k]'hlt) (wet_pos hgd _ (pix_lt _)).1
      have hln := fun h => loss_none (s := B) (B := B) (p := L[k]'hlt) h
      obtain ⟨⟨⟨x, y⟩, hx, hy⟩, hp⟩ : ∃ p, L[k]'hlt = p := ⟨_, rfl⟩
      rw [hp] at hst hwk HR hlb hln
      clear hp HFk
      replace hx : x < 8 := hx
      replace hy : y < 8 := hy
      replace HR : Hid (vrow 2 (fun i => f (k * 2 + i)) = #[.int .i8 x, .int .i8 y]) := HR
      have HRV : Hid (vrow 2 (fun i => f (k * 2 + i)) = vrow 2 (spAt x y)) := HR
      generalize hRk : ((L.take k).foldl (cellDry B B) (B, 0)) = TN at *
      obtain ⟨T, n⟩ := TN
      obtain ⟨n1, n2⟩ := hdr.sum
      have twb : T.wet (8 * y + x) = B.wet (8 * y + x) := hwk
      have hst3 : cellDry B B (T, n) ⟨(x, y), hx, hy⟩ = (T.sw (8 * y + x) (T.wet (8 * y + x) - loss B B ⟨(x, y), hx, hy⟩), n + loss B B ⟨(x, y), hx, hy⟩) := rfl
      have hls : loss B B ⟨(x, y), hx, hy⟩ = min (1 + dryN B (nbs B x y 4)) (B.wet (8 * y + x)) := rfl
      have hnone : B.wet (8 * y + x) = 0 → cellDry B B (T, n) ⟨(x, y), hx, hy⟩ = (T, n) := fun h => cellDry_none (hln h)
      have hwp : 0 ≤ B.wet (8 * y + x) ∧ B.wet (8 * y + x) ≤ 200 := wet_pos hgd (8 * y + x) (by omega)
      replace hlb : 0 ≤ loss B B ⟨(x, y), hx, hy⟩ ∧ loss B B ⟨(x, y), hx, hy⟩ ≤ B.wet (8 * y + x) ∧ loss B B ⟨(x, y), hx, hy⟩ ≤ 5 := hlb
      change 0 ≤ n at n1
      change n ≤ 5 * ((L.take k).length : Int) at n2
      replace hdr := Go.Lib.hid hdr
      clear hwk hln
      have HWA0 := fun w0 (ht : w0.heap[b]? = some (.cells (vrow 266 B.at) 34)) => l02Wet_any B b x y w0 ht hf hx hy
      rw [show wetF B x y = B.wet (8 * y + x) from rfl] at HWA0
      have HWA := Go.Lib.hid HWA0
      clear HWA0
      have hkI : (k : Int) < (L.length : Int) := by omega
      have hk0 : (0 : Int) ≤ (k : Int) := by omega
      have hkd : decide ((k : Int) < (L.length : Int)) = true := by simpa using hkI
      replace hst3 := Go.Lib.hid hst3; replace hls := Go.Lib.hid hls; replace hst := Go.Lib.hid hst; replace hnone := Go.Lib.hid hnone; replace twb := Go.Lib.hid twb
      by_cases hz : B.wet (8 * y + x) = 0
      · have hnn := Go.Lib.hid (hnone.out hz)
        rw [hz] at HWA
        clear hls hst3 hz hlb hwp twb hnone
        go_wp2_with (first
          | go_skip
          | ((with_reducible refine wlAt 27 rfl ?_); refine wpList_loadmid rfl 42 (.tmp 26) rfl g (k * 2) rfl (cap * 2) 2 f 42 _ Tryd.underlying42 rfl size_spot G.out (by omega) ?_; rw [HR.out])
          | (go_at_call 43; (refine (HWA.out _ SB.out).mono ?_; rintro e w1 ⟨rfl, hb⟩; replace SB := Go.Lib.hid (row_next hb SB.out); replace Z := Go.Lib.hid (row_next hb Z.out); replace O := Go.Lib.hid (row_next hb O.out); replace G := Go.Lib.hid (row_next hb G.out); replace hB := Go.Lib.hid (below_next hB.out hb); clear hb)))
        go_roundw
        case rel => exact ⟨k + 1, by omega, by go_num, by rw [hst.out, hnn.out], SB.out, Z.out, by rw [hst.out, hnn.out]; exact O.out, G.out, hB.out⟩
        case measure => simp [intOf]; omega
      · have HBS := Go.Lib.hid fun w0 (ht : w0.heap[b]? = some (.cells (vrow 266 B.at) 34)) => beside_any B b x y w0 ht hf hx hy hok
        have hML : (nbs B x y 4).length ≤ 4 := nbs_len B x y 4
        have hDN := fun j => dryN_bd B ((nbs B x y 4).take j)
        have hDN4 := dryN_bd B (nbs B x y 4)
        generalize hwa : B.wet (8 * y + x) = wa at *
        generalize hlo : loss B B ⟨(x, y), hx, hy⟩ = lo at *
        generalize nbs B x y 4 = M at *
        have hz1 : (wa == 0) = false := by simpa using hz
        have hz2 : decide (wa = 0) = false := by simpa using hz
        replace hDN := Go.Lib.hid hDN; replace hDN4 := Go.Lib.hid hDN4; replace hwa := Go.Lib.hid hwa; replace hlo := Go.Lib.hid hlo
        clear hz hnone
        go_wp2_with (first
          | go_skip
          | ((with_reducible refine wlAt 27 rfl ?_); refine wpList_loadmid rfl 42 (.tmp 26) rfl g (k * 2) rfl (cap * 2) 2 f 42 _ Tryd.underlying42 rfl size_spot G.out (by omega) ?_; rw [HR.out])
          | (go_at_call 43; (refine (HWA.out _ SB.out).mono ?_; rintro e w1 ⟨rfl, hb⟩; replace SB := Go.Lib.hid (row_next hb SB.out); replace Z := Go.Lib.hid (row_next hb Z.out); replace O := Go.Lib.hid (row_next hb O.out); replace G := Go.Lib.hid (row_next hb G.out); replace hB := Go.Lib.hid (below_next hB.out hb); clear hb))
          | ((with_reducible refine wlAt 35 rfl ?_); refine wpList_loadmid rfl 42 (.tmp 34) rfl g (k * 2) rfl (cap * 2) 2 f 42 _ Tryd.underlying42 rfl size_spot G.out (by omega) ?_; rw [HRV.out])
          | (go_at_call 55; (refine (HBS.out _ SB.out).mono ?_; rintro e w2 ⟨v2, rfl, hO, hb⟩; replace SB := Go.Lib.hid (row_next hb SB.out); replace Z := Go.Lib.hid (row_next hb Z.out); replace O := Go.Lib.hid (row_next hb O.out); replace G := Go.Lib.hid (row_next hb G.out); replace hB := Go.Lib.hid (below_next hB.out hb); clear hb)))
        clear HBS HWA
        obtain ⟨ptr, g2, cap2, f2, rfl, hN⟩ := Owns.any hO
        have NR : 0 < M.length → w2.heap[g2]? = some (.cells (vrow (cap2 * 2) f2) 42) := fun h => (hN h).2.2.2.1
        have HPT := Go.Lib.hid fun h => (hN h).1
        have HCP := Go.Lib.hid fun h => (hN h).2.2.1
        have HF2 := Go.Lib.hid fun h => (hN h).2.2.2.2
        clear hO hN
        replace NR := Go.Lib.hid NR
        obtain ⟨wo, hwo⟩ : ∃ wo : World, wo = w2 := ⟨_, rfl⟩
        rw [← hwo] at SB Z O G NR hB ⊢
        clear hwo w2
        go_loopw [9, 11] (fun lv jv wr => ∃ j : Nat, j ≤ M.length ∧ jv = .int .i64 j ∧ lv = .int .i64 (1 + dryN B (M.take j)) ∧ wr.heap[b]? = some (.cells (vrow 266 B.at) 34) ∧ wr.heap[w.heap.size]? = some (.cells (vrow 266 Sh.zero.at) 34) ∧ wr.heap[w.heap.size + 1]? = some (.cells (vrow 266 T.at) 34) ∧ wr.heap[g]? = some (.cells (vrow (cap * 2) f) 42) ∧ (0 < M.length → wr.heap[g2]? = some (.cells (vrow (cap2 * 2) f2) 42)) ∧ Below w.heap.size w wr) (fun _ jv _ => M.length - (intOf jv).toNat)
        case atStart => exact ⟨0, by omega, rfl, by simp [dryN], SB.out, Z.out, O.out, G.out, NR.out, hB.out⟩
        case round =>
          clear SB Z O G NR hB
          obtain ⟨j, hj, rfl, rfl, SB, Z, O, G, NR, hB⟩ := hrel
          obtain ⟨q1, q2⟩ := hDN.out j
          have hlenj : (M.take j).length ≤ 4 := by rw [List.length_take]; omega
          replace SB := Go.Lib.hid SB; replace Z := Go.Lib.hid Z; replace O := Go.Lib.hid O; replace G := Go.Lib.hid G; replace NR := Go.Lib.hid NR; replace hB := Go.Lib.hid hB
          by_cases hlj : j < M.length
          · have hs2 : dryN B (M.take (j + 1)) = dryN B (M.take j) + (if B.wet (pix (M[j]'hlj)) = 0 then 1 else 0) := by
              rw [List.take_succ_eq_append_getElem hlj, dryN_snoc]
            have hpt := HPT.out (by omega)
            have hcp := HCP.out (by omega)
            have HFj := HF2.out (by omega) j hlj
            have N := Go.Lib.hid (NR.out (by omega))
            have HR2 := Go.Lib.hid (row_spot f2 (j * 2) (M[j]'hlj) HFj)
            obtain ⟨⟨⟨u, v⟩, hu, hv⟩, hp⟩ : ∃ p, M[j]'hlj = p := ⟨_, rfl⟩
            rw [hp] at hs2 HR2
            clear hp HFj
            subst hpt
            replace hu : u < 8 := hu
            replace hv : v < 8 := hv
            replace HR2 : Hid (vrow 2 (fun i => f2 (j * 2 + i)) = #[.int .i8 u, .int .i8 v]) := HR2
            replace hs2 : dryN B (M.take (j + 1)) = dryN B (M.take j) + (if B.wet (8 * v + u) = 0 then 1 else 0) := hs2
            have HWB0 := fun w0 (ht : w0.heap[b]? = some (.cells (vrow 266 B.at) 34)) => l02Wet_any B b u v w0 ht hf hu hv
            rw [show wetF B u v = B.wet (8 * v + u) from rfl] at HWB0
            have HWB := Go.Lib.hid HWB0
            clear HWB0
            generalize B.wet (8 * v + u) = wb at *
            have hjI : (j : Int) < (M.length : Int) := by omega
            have hj0 : (0 : Int) ≤ (j : Int) := by omega
            have hjd : decide ((j : Int) < (M.length : Int)) = true := by simpa using hjI
            by_cases hz3 : wb = 0
            · subst hz3
              rw [if_pos rfl] at hs2
              replace hs2 := Go.Lib.hid hs2
              go_wp2_with (first
                | go_skip
                | ((with_reducible refine wlAt 47 rfl ?_); refine wpList_loadmid rfl 42 (.tmp 46) rfl g2 (j * 2) rfl (cap2 * 2) 2 f2 42 _ Tryd.underlying42 rfl size_spot N.out (by omega) ?_; rw [HR2.out])
                | (go_at_call 43; (refine (HWB.out _ SB.out).mono ?_; rintro e w1 ⟨rfl, hb⟩; replace SB := Go.Lib.hid (row_next hb SB.out); replace Z := Go.Lib.hid (row_next hb Z.out); replace O := Go.Lib.hid (row_next hb O.out); replace G := Go.Lib.hid (row_next hb G.out); replace N := Go.Lib.hid (row_next hb N.out); replace hB := Go.Lib.hid (below_next hB.out hb); clear hb)))
              go_roundw
              case rel => exact ⟨j + 1, by omega, by go_num, by rw [hs2.out]; go_num, SB.out, Z.out, O.out, G.out, fun _ => N.out, hB.out⟩
              case measure => simp [intOf]; omega
            · have hz4 : (wb == 0) = false := by simpa using hz3
              have hz5 : decide (wb = 0) = false := by simpa using hz3
              rw [if_neg hz3] at hs2
              replace hs2 := Go.Lib.hid hs2
              clear hz3
              go_wp2_with (first
                | go_skip
                | ((with_reducible refine wlAt 47 rfl ?_); refine wpList_loadmid rfl 42 (.tmp 46) rfl g2 (j * 2) rfl (cap2 * 2) 2 f2 42 _ Tryd.underlying42 rfl size_spot N.out (by omega) ?_; rw [HR2.out])
                | (go_at_call 43; (refine (HWB.out _ SB.out).mono ?_; rintro e w1 ⟨rfl, hb⟩; replace SB := Go.Lib.hid (row_next hb SB.out); replace Z := Go.Lib.hid (row_next hb Z.out); replace O := Go.Lib.hid (row_next hb O.out); replace G := Go.Lib.hid (row_next hb G.out); replace N := Go.Lib.hid (row_next hb N.out); replace hB := Go.Lib.hid (below_next hB.out hb); clear hb)))
              go_roundw
              case rel => exact ⟨j + 1, by omega, by go_num, by rw [hs2.out]; go_num, SB.out, Z.out, O.out, G.out, fun _ => N.out, hB.out⟩
              case measure => simp [intOf]; omega
          · obtain rfl : j = M.length := by omega
            have hjd : decide ((M.length : Int) < (M.length : Int)) = false := by simp
            rw [List.take_length] at q1 q2 ⊢
            have HMN := Go.Lib.hid fun w => (lmin_any (1 + dryN B M) wa w : Calls Tryd.prog 56 #[.int .i64 (1 + dryN B M), .int .i64 wa] w fun e w' => e = .returned (.int .i64 (min (1 + dryN B M) wa)) ∧ Below w.heap.size w w')
            rw [← hls.out] at HMN
            clear NR HPT HCP HF2
            go_wp2_with (first
              | go_skip
              | (go_at_call 56; (refine (HMN.out _).mono ?_; rintro e w1 ⟨rfl, hb⟩; replace SB := Go.Lib.hid (row_next hb SB.out); replace Z := Go.Lib.hid (row_next hb Z.out); replace O := Go.Lib.hid (row_next hb O.out); replace G := Go.Lib.hid (row_next hb G.out); replace hB := Go.Lib.hid (below_next hB.out hb); clear hb)))
            refine region_qt 20 (by kernel_rfl) (by kernel_rfl) ?_
            intro W hW
            rw [hW] at SB Z O G hB
            clear hW
            simp only [List.take_succ_cons, List.take_zero, List.drop_succ_cons, List.drop_zero]
            have O' := Go.Lib.hid (cls_row' O.out); have G' := Go.Lib.hid (cls_row' G.out)
            have HCV : Hid (IntKind.i16.wrap lo = lo) := IntWalk.i16_in _ (by omega)
            have hF0 : f (k * 2) = .int .i8 x ∧ f (k * 2 + 1) = .int .i8 y := ⟨by have := congrArg (fun q : Array Value => q[0]?) HRV.out; simpa [vrow, spAt] using this, by have := congrArg (fun q : Array Value => q[1]?) HRV.out; simpa [vrow, spAt] using this⟩
            replace hF0 := Go.Lib.hid hF0
            have hxI : (x : Int) < 8 := by omega
            have hyI : (y : Int) < 8 := by omega
            have hwt : Hid (T.at (2 + y * 8 + x) = .int .i16 wa) := by
              have := T.at_wet1 (2 + y * 8 + x) (8 * y + x) (by omega) (by omega)
              rw [twb.out] at this
              exact this
            (repeat (first
              | go_big_quiet_skip
              | (refine wpQuiet_load1 22 _ rfl (want_n rfl) g (k * 2 + 1) rfl (cap * 2) f _ rw_i8 G'.out (by omega) ?_; rw [hF0.out.2]; simp only [Act.put, List.setIfInBounds_toArray, List.set_cons_succ, List.set_cons_zero])
              | (refine wpQuiet_load1 22 _ rfl (want_n rfl) g (k * 2) rfl (cap * 2) f _ rw_i8 G'.out (by omega) ?_; rw [hF0.out.1]; simp only [Act.put, List.setIfInBounds_toArray, List.set_cons_succ, List.set_cons_zero])
              | (refine wpQuiet_load1 23 _ rfl (want_n rfl) (w.heap.size + 1) (2 + y * 8 + x) rfl 266 T.at _ rw_i16 O'.out (by omega) ?_; rw [hwt.out]; simp only [Act.put, List.setIfInBounds_toArray, List.set_cons_succ, List.set_cons_zero])
              | go_big_quiet_step (fail)))
            refine wpQuiet_nil ?_
            intro Wn hb
            replace SB := Go.Lib.hid (row_next hb SB.out); replace Z := Go.Lib.hid (row_next hb Z.out); replace O := Go.Lib.hid (row_next hb O.out); replace G := Go.Lib.hid (row_next hb G.out); replace hB := Go.Lib.hid (below_next hB.out hb)
            clear hb O' G'
            refine wpList_store1 rfl 23 (.tmp 74) (.tmp 71) rfl (w.heap.size + 1) (2 + y * 8 + x) rfl 266 T.at (.int .i16 (wa - lo)) (by first | rfl | (show Value.int .i16 (IntKind.i16.wrap (wa - IntKind.i16.wrap lo)) = _; rw [HCV.out, IntWalk.i16_in (wa - lo) (by omega)]) | (show Value.int .i16 (IntKind.i16.wrap (wa - lo)) = _; rw [IntWalk.i16_in (wa - lo) (by omega)])) _ size_i16 O.out (by omega) rfl ?_
            rw [T.sw_at _ (8 * y + x) (by omega) (by omega)]
            have O2 := row_set O.out (vrow 266 (T.sw (8 * y + x) (wa - lo)).at)
            have SB2 := row_set' (g := w.heap.size + 1) (by omega) SB.out (vrow 266 (T.sw (8 * y + x) (wa - lo)).at)
            have Z2 := row_set' (g := w.heap.size + 1) (by omega) Z.out (vrow 266 (T.sw (8 * y + x) (wa - lo)).at)
            have G2 := row_set' (g := w.heap.size + 1) (by omega) G.out (vrow 266 (T.sw (8 * y + x) (wa - lo)).at)
            have hB2 := Below_setRow hB.out (show w.heap.size ≤ w.heap.size + 1 by omega) (vrow 266 (T.sw (8 * y + x) (wa - lo)).at)
            clear SB Z O G hB
            generalize World.setRow Wn _ _ = w9 at SB2 Z2 O2 G2 hB2 ⊢
            have SB := Go.Lib.hid SB2; have Z := Go.Lib.hid Z2; have O := Go.Lib.hid O2; have G := Go.Lib.hid G2; have hB := Go.Lib.hid hB2
            clear SB2 Z2 O2 G2 hB2
            go_wp2
            go_roundw
            case rel => exact ⟨k + 1, by omega, by go_num, by rw [hst.out, hst3.out], SB.out, Z.out, by rw [hst.out, hst3.out, twb.out]; exact O.out, G.out, hB.out⟩
            case measure => simp [intOf]; omega
    · obtain rfl : k = L.length := by omega
      have hkd : decide ((L.length : Int) < (L.length : Int)) = false := by simp
      rw [List.take_length] at O ⊢
      generalize hTN : L.foldl (cellDry B B) (B, 0) = TN at *
      obtain ⟨T, n⟩ := TN
      go_wp2_with (first
        | go_skip
        | ((with_reducible refine wlAt 78 rfl ?_); refine wpList_loadall rfl 34 (.tmp 4) rfl _ rfl 266 T.at 34 _ Tryd.underlying34 rfl size_sheet O.out ?_)
        | ((with_reducible refine wlOp (.store 34 (.tmp 2) (.tmp 78)) rfl ?_); refine wpList_storeall rfl 34 (.tmp 2) (.tmp 78) rfl w.heap.size rfl 266 Sh.zero.at T.at rfl 34 size_sheet Z.out (fun i _ => Sh.one _ i) ?_; replace Z := Go.Lib.hid (row_set Z.out (vrow 266 T.at)); replace hB := Go.Lib.hid (Below_setRow hB.out (show w.heap.size ≤ w.heap.size by omega) (vrow 266 T.at))))
      exact ret_row2 Tryd.results42 w.heap.size 266 T.at 34 _ Tryd.underlying34 rfl size_sheet (.int .i64 n) rfl rfl rfl Z.out ⟨by first | rfl | rw [hTN], hB.out⟩
end Go.Proofs.YtflmkhjleifbbaaDoor
