import Derived.Test.YtmcpaangofdmpaaDoorEdC
import Derived.Test.YtmcpaangofdmpaaDoorChos
import Derived.Test.YtmcpaangofdmpaaDoorSpots
import Derived.Test.YtmcpaangofdmpaaDoorAsked
import Derived.Test.YtmcpaangofdmpaaDoorDark
import Derived.Test.YtmcpaangofdmpaaDoorApN
namespace Go.Proofs.YtmcpaangofdmpaaDoor
open Go.RowKit
set_option maxRecDepth 100000
set_option linter.unusedVariables false
set_option linter.unusedSimpArgs false
set_option maxHeartbeats 2000000 in
theorem lwetE_any (s : Sh) (b x y : Nat) (w : World) (h1 : w.heap[b]? = some (.cells (vrow 266 s.at) 34)) (hx : x < 8) (hy : y < 8) (hr : -32768 ≤ s.wet (8 * y + x) ∧ s.wet (8 * y + x) ≤ 32767) : Calls Tryd.prog 86 #[.pointer (some ⟨b, 0, none⟩), .agg (vrow 2 (spAt x y))] w fun e w' => e = .returned (.int .i64 (s.wet (8 * y + x))) ∧ Below w.heap.size w w' := by
  obtain ⟨v, hv⟩ : ∃ v, s.wet (8 * y + x) = v := ⟨_, rfl⟩
  have EV := Go.Lib.hid hv
  rw [hv] at hr ⊢
  clear hv
  have hwv : IntKind.i64.wrap v = v := IntWalk.i64_in _ (by omega)
  have hxI : (x : Int) < 8 := by omega
  have hyI : (y : Int) < 8 := by omega
  have X : Hid ((w.alloc (.cells (vrow 2 (spAt x y)) 111)).heap[w.heap.size]? = some (.cells (vrow 2 (spAt x y)) 111)) := (heap_at _ _ _ (by simp))
  have hB : Hid (Below w.heap.size w (w.alloc (.cells (vrow 2 (spAt x y)) 111))) := Go.Lib.hid ((Below.refl w.heap.size w).alloc (by simp <;> omega) _)
  have P : Hid ((w.alloc (.cells (vrow 2 (spAt x y)) 111)).heap[b]? = some (.cells (vrow 266 s.at) 34)) := heap_past _ _ _ _ (row_lt h1) h1
  clear h1
  go_enter Tryd.func86, Tryd.ntmps86
  go_wp2
  refine region_at (by kernel_rfl) (by kernel_rfl) ?_
  intro W hW
  rw [hW] at hB X P
  clear hW
  have X' := Go.Lib.hid (cls_row' X.out); have P' := Go.Lib.hid (cls_row' P.out)
  (repeat (first
    | go_big_quiet_skip
    | (refine wpQuiet_load1 22 _ rfl (by first | exact want_n rfl | exact want_g _ _ _ rfl rfl rfl) w.heap.size _ rfl 2 (spAt x y) _ rw_i8 X'.out (by omega) ?_; (first | rw [spAt_0] | rw [spAt_1]); simp only [Act.put, List.setIfInBounds_toArray, List.set_cons_succ, List.set_cons_zero])
    | (refine wpQuiet_load1 23 _ rfl (by first | exact want_n rfl | exact want_g _ _ _ rfl rfl rfl) b _ rfl 266 s.at _ rw_i16 P'.out (by omega) ?_; rw [at_wetE s _ (8 * y + x) (by omega) (by omega), EV.out]; simp only [Act.put, List.setIfInBounds_toArray, List.set_cons_succ, List.set_cons_zero])
    | go_big_quiet_step (fail)))
  refine wpQuiet_nil ?_
  intro W2 hb
  replace hB := Go.Lib.hid (below_next hB.out hb)
  clear hb X' P'
  go_wp2
  go_ret
  exact ⟨rfl, hB.out⟩
set_option maxHeartbeats 2000000 in
theorem specEd_bad (s : Sh) (px py : Nat → Int) (hf : s.fit) (ho : okI s = false) (w : World) : Calls Tryd.prog 37 #[.agg s.row] w fun e w' => ∃ v, e = .returned (.tuple #[v, .int .i64 1]) ∧ (∃ ao cp, v = .slice ao 0 cp) ∧ Below w.heap.size w w' := by
  have HO := Go.Lib.hid fun W h => ok_any s w.heap.size W h hf
  rw [← ok_eq s hf, ho] at HO
  have P : Hid ((w.alloc (.cells (vrow 266 s.at) 34)).heap[w.heap.size]? = some (.cells (vrow 266 s.at) 34)) := (heap_at _ _ _ (by simp))
  have hB : Hid (Below w.heap.size w (w.alloc (.cells (vrow 266 s.at) 34))) := Go.Lib.hid ((Below.refl w.heap.size w).alloc (by simp <;> omega) _)
  go_enter Tryd.func37, Tryd.ntmps37
  go_wp2_with (first
    | go_skip
    | (go_at_call 50; (refine (HO.out _ P.out).mono ?_); rintro o w1 ⟨rfl, hb⟩; replace P := Go.Lib.hid (row_next hb P.out); replace hB := Go.Lib.hid (below_next hB.out hb); clear hb))
  go_ret2
  exact ⟨_, rfl, ⟨_, _, rfl⟩, hB.out.alloc hB.out.size _⟩
theorem sp_lit (x y : Int) : vrow 2 (spAt x y) = #[.int .i8 x, .int .i8 y] := rfl
theorem info_partsE {P : Program} {t : TypeId} {z : Value} {n m : Nat} (h : (P.info? t).map (fun i => (i.zero, i.size, i.bytes)) = some (some z, n, m)) : ∃ i, P.info? t = some i ∧ i.zero = some z ∧ i.size = n ∧ i.bytes = m := by
  obtain ⟨i, hi, hzz⟩ := Option.map_eq_some_iff.1 h
  simp only [Prod.mk.injEq] at hzz
  exact ⟨i, hi, hzz.1, hzz.2.1, hzz.2.2⟩
theorem own_slN {w : World} {base n : Nat} {v : Value} {xs : List Value} (h : w.ownsRow base 111 2 v n xs) : ∃ ao cp, v = .slice ao n cp := by
  rcases h.2 with ⟨rfl, h0⟩ | ⟨g, cap, cur, rfl, _⟩
  · exact ⟨none, 0, by rw [h0]⟩
  · exact ⟨_, _, rfl⟩
theorem any_keep {f : Sp8 → Bool} {l : List Sp8} {k : Nat} (hk : k < l.length) (h : (l.take k).any f = true) : (l.take (k + 1)).any f = true := by
  rw [List.take_succ_eq_append_getElem hk, List.any_append, h]; simp
theorem own_nb {w w' : World} {base n : Nat} {v : Value} {xs : List Value} (h : w.ownsRow base 111 2 v n xs) (hb : Below w.heap.size w w') : w'.ownsRow base 111 2 v n xs := h.kept (grown_next (grown_refl _ none) hb) (by cases hv : Value.ownBlock _ <;> simp)
set_option maxRecDepth 100000 in
set_option maxHeartbeats 16000000 in
theorem specEd_ok (s : Sh) (a c : Nat) (hf : s.fit) (ho : okI s = true) (ea : s.wide = a) (ec : s.high = c) (ha : 1 ≤ a ∧ a ≤ 8) (hc : 1 ≤ c ∧ c ≤ 8) (w : World) : Calls Tryd.prog 37 #[.agg s.row] w fun e w' => ∃ v, e = .returned (.tuple #[v, .int .i64 0]) ∧ w'.ownsRow w.heap.size 111 2 v (fl (edB s) (cellsL a c)).length (vals (fl (edB s) (cellsL a c))) ∧ Below w.heap.size w w' := by
  have HO := Go.Lib.hid fun W h => ok_any s w.heap.size W h hf
  rw [← ok_eq s hf, ho] at HO
  obtain ⟨i0, hi, hz0, hz1, hz2⟩ := info_partsE info_spot
  have hLn : (cellsL a c).length = a * c := cellsL_length a c
  have hac : 1 ≤ (cellsL a c).length ∧ (cellsL a c).length ≤ 64 := by rw [hLn]; exact ⟨Nat.mul_le_mul ha.1 hc.1, Nat.mul_le_mul ha.2 hc.2⟩
  have HSp := Go.Lib.hid fun W hs => spots_any s w.heap.size a c W hs ea ec ha.2 hc.2
  have hwb : ∀ x y, x < 8 → y < 8 → 0 ≤ s.wet (8 * y + x) ∧ s.wet (8 * y + x) ≤ 32767 := fun x y hx hy => by have := (ok_bounds s ho x y hx hy).1; omega
  have HBs := fun (x y : Nat) W hs hx hy => beside_any s w.heap.size x y W hs hf hx hy ho
  have HWt := fun (x y : Nat) W hs hx hy => lwetE_any s w.heap.size x y W hs hx hy (by have := hwb x y hx hy; omega)
  generalize cellsL a c = L at *
  clear hLn ea ec
  have P : Hid ((w.alloc (.cells (vrow 266 s.at) 34)).heap[w.heap.size]? = some (.cells (vrow 266 s.at) 34)) := (heap_at _ _ _ (by simp))
  have hB : Hid (Below w.heap.size w (w.alloc (.cells (vrow 266 s.at) 34))) := Go.Lib.hid ((Below.refl w.heap.size w).alloc (by simp <;> omega) _)
  go_enter Tryd.func37, Tryd.ntmps37
  go_wp2_with (first
    | go_skip
    | (go_at_call 50; (refine (HO.out _ P.out).mono ?_); rintro o w1 ⟨rfl, hb⟩; replace P := Go.Lib.hid (row_next hb P.out); replace hB := Go.Lib.hid (below_next hB.out hb); clear hb)
    | (go_at_call 71; have hw1 := row_lt P.out; have hbz := hB.out.size; replace P := Go.Lib.hid (heap_past w1 (.cells #[] 111) _ _ (row_lt P.out) P.out); have O := Go.Lib.hid (World.ownsRow_made (size := 2) (e := 111) w1 #[] 0 (Nat.le_refl _) (by decide) rfl); replace hB := Go.Lib.hid (hB.out.alloc hB.out.size (.cells #[] 111)); have hsz1 : (w1.alloc (.cells #[] 111)).heap.size = w1.heap.size + 1 := (by simp); (refine (HSp.out _ P.out).mono ?_); rintro o w2 ⟨v, rfl, hO, hb⟩; replace P := Go.Lib.hid (row_next hb P.out); replace O := Go.Lib.hid (own_nb O.out hb); replace hB := Go.Lib.hid (below_next hB.out hb); have hN0 := hb.size; rw [hsz1] at hO hN0; obtain ⟨g, cap, f, rfl, hg, hcap, hO2, hf2⟩ := hO.row (by omega); have G := Go.Lib.hid hO2; have HF := Go.Lib.hid hf2; obtain ⟨ob, hob⟩ : ∃ z, w1.heap.size = z := ⟨_, rfl⟩; rw [hob] at hw1 O hg hN0 hbz ⊢; clear hO hO2 hf2 hb hob hsz1))
  have P0 := P.out; have O0 := O.out; have G0 := G.out; have B0 := hB.out
  have hgw := row_lt G0
  clear P O G hB HSp HO
  go_loopw [4, 6] (fun v iv wr => ∃ k : Nat, k ≤ L.length ∧ iv = .int .i64 k ∧ wr.ownsRow ob 111 2 v (fl (edB s) (L.take k)).length (vals (fl (edB s) (L.take k))) ∧ wr.heap[w.heap.size]? = some (.cells (vrow 266 s.at) 34) ∧ wr.heap[g]? = some (.cells (vrow (cap * 2) f) 111) ∧ w2.heap.size ≤ wr.heap.size ∧ (∀ q, v.ownBlock = some q → q = ob ∨ w2.heap.size ≤ q) ∧ Below w.heap.size w wr) (fun _ iv _ => L.length - (intOf iv).toNat)
  case atStart => exact ⟨0, by omega, rfl, by simpa [vals, fl] using O0, P0, G0, Nat.le_refl _, (fun q hq => .inl (by simpa [Value.ownBlock] using hq.symm)), B0⟩
  case round =>
    clear O0 P0 G0 B0
    obtain ⟨k, hk, rfl, O, P, G, hN, hOB, hB⟩ := hrel
    replace hOB := Go.Lib.hid hOB
    by_cases hlt : k < L.length
    · have hf2 := HF.out k hlt
      obtain ⟨⟨⟨i, j⟩, hi8, hj8⟩, hp⟩ : ∃ p, L[k]'hlt = p := ⟨_, rfl⟩
      rw [hp] at hf2
      have hap : fl (edB s) (L.take (k + 1)) = (fl (edB s) (L.take k)) ++ (if edB s i j then [⟨(i, j), hi8, hj8⟩] else []) := by
        rw [List.take_succ_eq_append_getElem hlt, hp, fl_app]
      have hle : (fl (edB s) (L.take k)).length ≤ 64 := Nat.le_trans (fl_len _ _) (by rw [List.length_take]; omega)
      have hv1 := vals_one (⟨(i, j), hi8, hj8⟩ : Sp8)
      simp only at hv1
      replace hi8 : i < 8 := hi8
      replace hj8 : j < 8 := hj8
      have HR := Go.Lib.hid (show vrow 2 (fun q => f (k * 2 + q)) = vrow 2 (spAt i j) from vrow_ext _ _ _ fun q hq => by
        have : q = 0 ∨ q = 1 := by omega
        rcases this with rfl | rfl
        · exact hf2.1
        · exact hf2.2)
      have HAP := Go.Lib.hid hap; have HV1 := Go.Lib.hid hv1
      have HB := Go.Lib.hid fun W h => HBs i j W h hi8 hj8
      have HW := Go.Lib.hid fun W h => HWt i j W h hi8 hj8
      have hpos := hwb i j hi8 hj8
      have hed : edB s i j = (!(s.wet (8 * j + i) == 0) && (nbs s i j 4).any (dryB s)) := rfl
      have hnl := nbs_len s i j 4
      clear hf2 hp hap hv1
      generalize (fl (edB s) (L.take k)) = M at *
      generalize nbs s i j 4 = nl at *
      replace O := Go.Lib.hid O; replace P := Go.Lib.hid P; replace G := Go.Lib.hid G; replace hB := Go.Lib.hid hB
      have hkI : (k : Int) < (L.length : Int) := by omega
      have hk0 : (0 : Int) ≤ (k : Int) := by omega
      have hkd : decide ((k : Int) < (L.length : Int)) = true := by simpa using hkI
      go_wp2_with (first
        | go_skip
        | ((with_reducible refine wlAt 24 rfl ?_); refine wpList_loadmid rfl 111 (.tmp 23) rfl g (k * 2) rfl (cap * 2) 2 f 111 _ Tryd.underlying111 rfl size_spot G.out (by omega) ?_; rw [HR.out])
        | (go_at_call 85; (refine (HB.out _ P.out).mono ?_); rintro o w3 ⟨v3, rfl, hO3, hb⟩; obtain ⟨ao3, cp3, rfl⟩ := own_slN hO3.own; replace P := Go.Lib.hid (row_next hb P.out); replace G := Go.Lib.hid (row_next hb G.out); replace O := Go.Lib.hid (own_nb O.out hb); replace hN := Nat.le_trans hN hb.size; replace hB := Go.Lib.hid (below_next hB.out hb); clear hb))
      have P1 := P.out; have G1 := G.out; have O1 := O.out; have B1 := hB.out; have hN1 := hN
      clear P G O hB hN
      go_loopw [7, 9] (fun ev iv wz => ∃ m : Nat, m ≤ nl.length ∧ iv = .int .i64 m ∧ ev = .bool ((nl.take m).any (dryB s)) ∧ wz.heap[w.heap.size]? = some (.cells (vrow 266 s.at) 34) ∧ Below w3.heap.size w3 wz) (fun _ iv _ => nl.length - (intOf iv).toNat)
      case atStart => exact ⟨0, by omega, rfl, by simp, P1, Below.refl _ _⟩
      case round =>
        obtain ⟨m, hm, rfl, rfl, P, h3⟩ := hrel
        by_cases hlm : m < nl.length
        · obtain ⟨g3, cap3, f3, he3, hg3, hcap3, hrow3, hf3⟩ := hO3.row (by omega)
          simp only [Value.slice.injEq] at he3
          obtain ⟨rfl, _, rfl⟩ := he3
          have G3 := Go.Lib.hid (row_next h3 hrow3)
          have hf := hf3 m hlm
          have hst := any_take (f := dryB s) hlm
          have hkp := any_keep (f := dryB s) hlm
          obtain ⟨⟨⟨x, y⟩, hx, hy⟩, hq⟩ : ∃ q, nl[m]'hlm = q := ⟨_, rfl⟩
          rw [hq] at hf hst
          replace hx : x < 8 := hx
          replace hy : y < 8 := hy
          have HR3 := Go.Lib.hid (show vrow 2 (fun j => f3 (m * 2 + j)) = vrow 2 (spAt x y) from vrow_ext _ _ _ fun j hj => by
            have : j = 0 ∨ j = 1 := by omega
            rcases this with rfl | rfl
            · exact hf.1
            · exact hf.2)
          have hdr : dryB s ⟨(x, y), hx, hy⟩ = (s.wet (8 * y + x) == 0) := rfl
          rw [hdr] at hst
          have HW3 := Go.Lib.hid fun W h => HWt x y W h hx hy
          have hmI : (m : Int) < (nl.length : Int) := by omega
          have hm0 : (0 : Int) ≤ (m : Int) := by omega
          have hmd : decide ((m : Int) < (nl.length : Int)) = true := by simpa using hmI
          clear hq hf hdr hf3
          generalize hbe : (nl.take m).any (dryB s) = be at *
          clear hbe
          generalize s.wet (8 * y + x) = wv at *
          replace P := Go.Lib.hid P; replace h3 := Go.Lib.hid h3
          cases be
          · have HST := Go.Lib.hid (hst rfl)
            clear hst hkp
            obtain ⟨wb, hwbe⟩ : ∃ z, (wv == 0) = z := ⟨_, rfl⟩
            go_wp2_with (first
              | go_skip
              | ((with_reducible refine wlAt 37 rfl ?_); refine wpList_ldm 111 (.tmp 36) rfl (by first | exact want_n rfl | exact want_g _ _ _ rfl rfl rfl) g3 (m * 2) rfl _ 2 f3 _ rw_spot size_spot G3.out (by omega) ?_; rw [HR3.out])
              | (go_at_call 86; (refine (HW3.out _ P.out).mono ?_); rintro o w5 ⟨rfl, hb⟩; replace P := Go.Lib.hid (row_next hb P.out); replace h3 := Go.Lib.hid (below_next h3.out hb); clear hb))
            go_roundw
            case rel => exact ⟨m + 1, by omega, by go_num, by rw [HST.out, hwbe], P.out, h3.out⟩
            case measure => simp [intOf]; omega
          · have HST := Go.Lib.hid (hkp rfl)
            clear hst hkp
            go_wp2
            go_roundw
            case rel => exact ⟨m + 1, by omega, by go_num, by rw [HST.out], P.out, h3.out⟩
            case measure => simp [intOf]; omega
        · obtain rfl : m = nl.length := by omega
          have hmd : decide ((nl.length : Int) < (nl.length : Int)) = false := by simp
          rw [List.take_length]
          have G := Go.Lib.hid (row_next h3 G1); have O := Go.Lib.hid (own_nb O1 h3); have hN := Nat.le_trans hN1 h3.size; have hB := Go.Lib.hid (below_next B1 h3)
          replace P := Go.Lib.hid P
          clear P1 G1 O1 B1 hN1
          generalize nl.any (dryB s) = an at *
          generalize s.wet (8 * j + i) = wv at *
          cases an
          · have HN := Go.Lib.hid (show edB s i j = false by rw [hed]; simp)
            go_wp2
            go_roundw
            case rel => exact ⟨k + 1, by omega, by go_num, by rw [HAP.out, HN.out, if_neg (by simp), List.append_nil]; exact O.out, P.out, G.out, hN, hOB.out, hB.out⟩
            case measure => simp [intOf]; omega
          · by_cases hwp : wv = 0
            · subst hwp
              have HN := Go.Lib.hid (show edB s i j = false by rw [hed]; rfl)
              have hd0 : decide ((0 : Int) < 0) = false := rfl
              go_wp2_with (first
                | go_skip
                | ((first | (with_reducible refine wlAt 46 rfl ?_) | (with_reducible refine wlAt 54 rfl ?_)); refine wpList_ldm 111 _ rfl (by first | exact want_n rfl | exact want_g _ _ _ rfl rfl rfl) g (k * 2) rfl (cap * 2) 2 f _ rw_spot size_spot G.out (by omega) ?_; rw [HR.out, sp_lit])
                | (go_at_call 86; (refine (HW.out _ P.out).mono ?_); rintro o w6 ⟨rfl, hb⟩; replace P := Go.Lib.hid (row_next hb P.out); replace G := Go.Lib.hid (row_next hb G.out); replace O := Go.Lib.hid (own_nb O.out hb); replace hN := Nat.le_trans hN hb.size; replace hB := Go.Lib.hid (below_next hB.out hb); clear hb))
              go_roundw
              case rel => exact ⟨k + 1, by omega, by go_num, by rw [HAP.out, HN.out, if_neg (by simp), List.append_nil]; exact O.out, P.out, G.out, hN, hOB.out, hB.out⟩
              case measure => simp [intOf]; omega
            · have hne : (wv == 0) = false := by rw [beq_eq_false_iff_ne]; exact hwp
              have HN := Go.Lib.hid (show edB s i j = true by rw [hed, hne]; rfl)
              have hd0 : decide (0 < wv) = true := by simp; omega
              go_wp2_with (first
                | go_skip
                | ((first | (with_reducible refine wlAt 46 rfl ?_) | (with_reducible refine wlAt 54 rfl ?_)); refine wpList_ldm 111 _ rfl (by first | exact want_n rfl | exact want_g _ _ _ rfl rfl rfl) g (k * 2) rfl (cap * 2) 2 f _ rw_spot size_spot G.out (by omega) ?_; rw [HR.out, sp_lit])
                | (go_at_call 86; (refine (HW.out _ P.out).mono ?_); rintro o w6 ⟨rfl, hb⟩; replace P := Go.Lib.hid (row_next hb P.out); replace G := Go.Lib.hid (row_next hb G.out); replace O := Go.Lib.hid (own_nb O.out hb); replace hN := Nat.le_trans hN hb.size; replace hB := Go.Lib.hid (below_next hB.out hb); clear hb)
                | (at_builtin; refine wpList_append_ownN rfl (.tmp 50) (.tmp 55) 67 rfl ob 111 i0 (.agg #[.int .i8 0, .int .i8 0]) 2 2 Tryd.underlying67 hi hz0 hz1 hz2 rfl (by decide) _ _ _ rfl (O.out.alloc _) ⟨w6.heap.size, 0, none⟩ 1 1 [.int .i8 i, .int .i8 j] rfl rfl (World.news_of_block (heap_at _ _ _ rfl)) (by simp [Value.oneCell']) (by simp only [maxLen]; omega) (by omega) (by have := hB.out.size; have := row_lt P.out; simp; omega) ?_; intro v' w7 hown' hgrow hnb))
              have hov := O.out.lt
              have P1 := (hgrow.block w.heap.size (by have := row_lt P.out; simp; omega) (fun e => by have := (hov _ e.symm).1; omega)).trans (heap_past _ _ _ _ (row_lt P.out) P.out)
              have G1 := (hgrow.block g (by have := row_lt G.out; simp; omega) (fun e => by rcases hOB.out g e.symm with h | h <;> omega)).trans (heap_past _ _ _ _ (row_lt G.out) G.out)
              have hN1 := Nat.le_trans hN (Nat.le_trans (show w6.heap.size ≤ (w6.alloc (.cells #[.int .i8 i, .int .i8 j] 111)).heap.size by simp) hgrow.size)
              have B1 : Below w.heap.size w w7 := (hB.out.alloc hB.out.size _).grown hgrow (by have := hB.out.size; simp; omega) (fun q hq => by have := (hov q hq).1; omega)
              have hOB2 : ∀ q, v'.ownBlock = some q → q = ob ∨ w2.heap.size ≤ q := fun q hq => by
                rcases hnb with h | ⟨k2, h, hle2⟩
                · rw [h] at hq; exact hOB.out q hq
                · rw [h] at hq; have := Option.some.inj hq; simp at hle2; right; omega
              go_roundw
              case rel => exact ⟨k + 1, by omega, by go_num, by rw [HAP.out, HN.out, if_pos rfl, List.length_append, vals_app, HV1.out]; exact hown', P1, G1, hN1, hOB2, B1⟩
              case measure => simp [intOf]; omega
    · obtain rfl : k = L.length := by omega
      have hkd : decide ((L.length : Int) < (L.length : Int)) = false := by simp
      rw [List.take_length] at O
      go_wp2
      go_ret2
      exact ⟨_, rfl, own_mono (by omega) O, hB⟩
end Go.Proofs.YtmcpaangofdmpaaDoor
