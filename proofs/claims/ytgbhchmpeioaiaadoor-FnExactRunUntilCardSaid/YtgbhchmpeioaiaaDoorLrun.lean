import Derived.Deep.RegionHeld3
import Derived.Test.YtgbhchmpeioaiaaDoorG1
import Derived.Test.YtgbhchmpeioaiaaDoorIndex
import Derived.Test.YtgbhchmpeioaiaaDoorRunM
import Derived.Test.YtgbhchmpeioaiaaDoorBeside
import Derived.Test.YtgbhchmpeioaiaaDoorGive
namespace Go.Proofs.YtgbhchmpeioaiaaDoor
open Go.RowKit
set_option maxRecDepth 100000
set_option linter.unusedVariables false
set_option linter.unusedSimpArgs false
set_option linter.unusedSimpArgs false
theorem yields_mid {P : Program} {ops : Array Oper} {S : World → Prop} {o : Oper} {a : Act} (hw : Region.wanted o (yielded ops a.tmps) = true) (ty : TypeId) (x : Operand) (ho : o.op = .load ty x)
    (b off : Nat) (hx : a.eval x = .pointer (some ⟨b, off, none⟩)) (n m : Nat) (f : Nat → Value) (r : Array Value) (hbd : off + m ≤ n) (t : TypeId) (d : TypeDesc) (hu : P.underlying ty = some d) (hd : d.isRow = true) (hi : (P.info? ty).map (·.size) = some m)
    (hr : vrow m (fun i => f (off + i)) = r) (hS : ∀ w, S w → w.heap[b]? = some (.cells (vrow n f) t)) : YieldsIf P ops S o (.agg r) a :=
  .inl ⟨hw, fun w hw' => by
    have hg := hS w hw'
    have hrun := run_loadAt_mid (P := P) w b off ty ((List.range m).map fun i => f (off + i)) d (fun j v hj => by
      have hjm : j < m := by
        by_cases c : j < m
        · exact c
        · rw [List.getElem?_eq_none (by simp; omega)] at hj; cases hj
      rw [cell_row hg (by omega)]
      simp [hjm] at hj; rw [hj]) hu hd (by simpa using hi)
    unfold execOp
    simp only [ho, hx, Sem.run_bind, hrun, Result.andThen_ok, Sem.run_pure]
    rw [← hr]; simp [vrow]⟩
set_option maxHeartbeats 8000000 in
theorem lrun_any (s : Sh) (a c : Nat) (w : World) (ea : s.wide = a) (ec : s.high = c) (ha : 1 ≤ a ∧ a ≤ 8) (hc : 1 ≤ c ∧ c ≤ 8) (hok : okI s = true) (hi : InkOk s) (hf : s.fit) : Calls Tryd.prog 74 #[.agg s.row] w fun e w' => e = .returned (.tuple #[.agg (runS s (cellsL a c)).1.row, .int .i64 (runS s (cellsL a c)).2]) ∧ Below w.heap.size w w' := by
  have HSp := Go.Lib.hid fun b w hs => spots_any s b a c w hs ea ec ha.2 hc.2
  have hn : (cellsL a c).length = a * c := cellsL_length a c
  have hac : 1 ≤ a * c ∧ a * c ≤ 64 := ⟨Nat.mul_le_mul ha.1 hc.1, Nat.mul_le_mul ha.2 hc.2⟩
  rw [← hn] at hac
  have hmem : ∀ p ∈ cellsL a c, hasB s p.1.1 p.1.2 = true := fun p hp => by
    have h2 : p.1 ∈ pairsL a c := by rw [← cellsL_val a c (by omega) c (by omega)]; exact List.mem_map_of_mem hp
    obtain ⟨h3, h4⟩ := pairsL_mem h2
    unfold hasB
    simp; omega
  have HG0 := Go.Lib.hid fun k => runS_gd hok ((cellsL a c).take k) (fun p hp => hmem p (List.mem_of_mem_take hp)) (s, 0) (Gd.start hok hi hf)
  have HMEM := Go.Lib.hid hmem
  have HNBM := Go.Lib.hid fun (x y : Nat) (hx : x < 8) (hy : y < 8) (q : Sp8) (hq : q ∈ nbs s x y 4) => nbs_mem hok hx hy (q := q) 4 (Nat.le_refl _) hq
  have HOK := Go.Lib.hid hok
  generalize cellsL a c = L at *
  clear hn ea ec ha hc hmem hok hi hf
  have zz := zero_sheet
  have hB : Hid (Below w.heap.size w ((w.alloc (.cells (vrow 266 s.at) 35)).alloc (.cells (vrow 266 Sh.zero.at) 35))) := (((Below.refl w.heap.size w).alloc (by simp <;> omega) _).alloc (by simp <;> omega) _)
  have SB : Hid (((w.alloc (.cells (vrow 266 s.at) 35)).alloc (.cells (vrow 266 Sh.zero.at) 35)).heap[(w.heap.size)]? = some (.cells (vrow 266 s.at) 35)) := heap_past _ _ _ _ (by first | omega | (simp <;> omega)) (heap_at _ _ _ (by simp))
  have Z : Hid (((w.alloc (.cells (vrow 266 s.at) 35)).alloc (.cells (vrow 266 Sh.zero.at) 35)).heap[(w.heap.size + 1)]? = some (.cells (vrow 266 Sh.zero.at) 35)) := heap_at _ _ _ (by simp)
  go_enter Tryd.func74, Tryd.ntmps74
  go_wp2_with (first
    | go_skip
    | (go_at_call 55; (refine (HSp.out _ _ SB.out).mono ?_; rintro e w1 ⟨v, rfl, hO, hb⟩; replace SB := Go.Lib.hid (row_next hb SB.out); replace Z := Go.Lib.hid (row_next hb Z.out); replace hB := Go.Lib.hid (below_next hB.out hb))))
  have hbg := hb.size
  obtain ⟨g, cap, f, rfl, hg, hcap, hO2, hf2⟩ := hO.row (by omega)
  have G := Go.Lib.hid hO2; have HF := Go.Lib.hid hf2
  have hgB : w.heap.size + 2 ≤ g := by simp at hg; omega
  clear hO hO2 hf2 hb hbg hg
  obtain ⟨wo, hwo⟩ : ∃ wo : World, wo = w1 := ⟨_, rfl⟩
  rw [← hwo] at SB Z hB G ⊢
  clear hwo w1
  go_loopw [4, 6] (fun nv iv wr => ∃ k : Nat, k ≤ L.length ∧ iv = .int .i64 k ∧ nv = .int .i64 (runS s (L.take k)).2 ∧ wr.heap[w.heap.size]? = some (.cells (vrow 266 (runS s (L.take k)).1.at) 35) ∧ wr.heap[w.heap.size + 1]? = some (.cells (vrow 266 Sh.zero.at) 35) ∧ wr.heap[g]? = some (.cells (vrow (cap * 2) f) 40) ∧ Below w.heap.size w wr) (fun _ iv _ => L.length - (intOf iv).toNat)
  case atStart => exact ⟨0, by omega, rfl, rfl, SB.out, Z.out, G.out, hB.out⟩
  case round =>
    clear SB Z G hB
    obtain ⟨k, hk, rfl, rfl, SB, Z, G, hB⟩ := hrel
    obtain ⟨hgd, c1, c2⟩ := HG0.out k
    have hlen : (L.take k).length ≤ 64 := by rw [List.length_take]; omega
    replace SB := Go.Lib.hid SB; replace Z := Go.Lib.hid Z; replace G := Go.Lib.hid G; replace hB := Go.Lib.hid hB
    by_cases hlt : k < L.length
    · have hst : runS s (L.take (k + 1)) = cellRun s (runS s (L.take k)) (L[k]'hlt) := by
        unfold runS; rw [List.take_succ_eq_append_getElem hlt, List.foldl_append]; rfl
      have hbp := HMEM.out _ (List.getElem_mem hlt)
      have HFk := HF.out k hlt
      have HR := Go.Lib.hid (row_spot f (k * 2) (L[k]'hlt) HFk)
      obtain ⟨⟨⟨x, y⟩, hx, hy⟩, hp⟩ : ∃ p, L[k]'hlt = p := ⟨_, rfl⟩
      rw [hp] at hst hbp HR
      clear hp HFk
      replace hx : x < 8 := hx
      replace hy : y < 8 := hy
      replace hbp : hasB s x y = true := hbp
      replace HR : Hid (vrow 2 (fun i => f (k * 2 + i)) = #[.int .i8 x, .int .i8 y]) := HR
      have HRV : Hid (vrow 2 (fun i => f (k * 2 + i)) = vrow 2 (spAt x y)) := HR
      change (0 : Int) ≤ _ at c1
      change _ ≤ (0 : Int) + 4 * _ at c2
      have hst2 : cellRun s (runS s (L.take k)) ⟨(x, y), hx, hy⟩ = if waxB s x y then runS s (L.take k) else (nbs s x y 4).foldl (gv x y) (runS s (L.take k)) := rfl
      rw [hst2] at hst
      clear hst2
      change Gd s (runS s (L.take k)).1 at hgd
      change (0 : Int) ≤ (runS s (L.take k)).2 at c1
      change (runS s (L.take k)).2 ≤ (0 : Int) + 4 * ((L.take k).length : Int) at c2
      generalize hRk : runS s (L.take k) = TN at *
      obtain ⟨T, n⟩ := TN
      change Gd s T at hgd
      change (0 : Int) ≤ n at c1
      change n ≤ (0 : Int) + 4 * ((L.take k).length : Int) at c2
      have hWX0 := fun w ht => lwaxed_any T w.heap.size x y w ht hx hy
      have HWX := Go.Lib.hid fun w0 (ht : w0.heap[w.heap.size]? = some (.cells (vrow 266 T.at) 35)) => lwaxed_any T w.heap.size x y w0 ht hx hy
      clear hWX0
      have hkI : (k : Int) < (L.length : Int) := by omega
      have hk0 : (0 : Int) ≤ (k : Int) := by omega
      have hkd : decide ((k : Int) < (L.length : Int)) = true := by simpa using hkI
      cases hwx : waxB s x y
      · have hM : nbs T x y 4 = nbs s x y 4 := nbs_like hgd x y 4
        have HBS := Go.Lib.hid fun w0 (ht : w0.heap[w.heap.size]? = some (.cells (vrow 266 T.at) 35)) => beside_any T w.heap.size x y w0 ht hgd.fit hx hy hgd.ok
        rw [hM] at HBS
        rw [wax_like hgd, hwx] at HWX
        rw [hwx, if_neg (by simp)] at hst
        go_wp2_with (first
          | go_skip
          | (with_reducible refine wlAt 19 rfl ?_; refine wpList_loadmid rfl 40 (.tmp 18) rfl g (k * 2) rfl (cap * 2) 2 f 40 _ Tryd.underlying40 rfl size_spot G.out (by omega) ?_; rw [HR.out])
          | (go_at_call 89; (refine (HWX.out _ SB.out).mono ?_; rintro e w1 ⟨rfl, hb⟩; replace SB := Go.Lib.hid (row_next hb SB.out); replace Z := Go.Lib.hid (row_next hb Z.out); replace G := Go.Lib.hid (row_next hb G.out); replace hB := Go.Lib.hid (below_next hB.out hb); clear hb))
          | (with_reducible refine wlAt 24 rfl ?_; refine wpList_loadmid rfl 40 (.tmp 23) rfl g (k * 2) rfl (cap * 2) 2 f 40 _ Tryd.underlying40 rfl size_spot G.out (by omega) ?_; rw [HRV.out])
          | (go_at_call 106; (refine (HBS.out _ SB.out).mono ?_; rintro e w2 ⟨v2, rfl, hO, hb⟩; have nZ1 := row_lt Z.out; replace SB := Go.Lib.hid (row_next hb SB.out); replace Z := Go.Lib.hid (row_next hb Z.out); replace G := Go.Lib.hid (row_next hb G.out); replace hB := Go.Lib.hid (below_next hB.out hb))))
        clear HBS HWX
        have hML : (nbs s x y 4).length ≤ 4 := nbs_len s x y 4
        have hMM := HNBM.out x y hx hy
        have f1 : freeB s x y = true := by unfold freeB; rw [hbp, Int.toNat_natCast, Int.toNat_natCast, hwx]; rfl
        have HFD := Go.Lib.hid fun j => fold_gd HOK.out hx hy f1 ((nbs s x y 4).take j) (fun q hq => List.mem_of_mem_take hq) (T, n) hgd
        generalize nbs s x y 4 = M at *
        by_cases hl : M.length = 0
        · obtain ⟨b0, cap0, hsv⟩ := hO.nil_cases hl
          obtain rfl := List.eq_nil_of_length_eq_zero hl
          rw [List.foldl_nil] at hst
          clear hO hb hl
          rcases hsv with rfl | rfl
          · go_loopw [4, 8] (fun nv jv wr => nv = .int .i64 n ∧ jv = .int .i64 0 ∧ wr.heap[w.heap.size]? = some (.cells (vrow 266 T.at) 35) ∧ wr.heap[w.heap.size + 1]? = some (.cells (vrow 266 Sh.zero.at) 35) ∧ wr.heap[g]? = some (.cells (vrow (cap * 2) f) 40) ∧ Below w.heap.size w wr) (fun _ jv _ => 0)
            case atStart => exact ⟨rfl, rfl, SB.out, Z.out, G.out, hB.out⟩
            case round =>
              obtain ⟨rfl, rfl, SB1, Z1, G1, hB1⟩ := hrel
              go_wp2
              go_roundw
              case rel => exact ⟨k + 1, by omega, by go_num, by first | (rw [hst]; done) | (rw [hst]; rfl), by rw [hst]; exact SB1, Z1, G1, hB1⟩
              case measure => simp [intOf]; omega
          · go_loopw [4, 8] (fun nv jv wr => nv = .int .i64 n ∧ jv = .int .i64 0 ∧ wr.heap[w.heap.size]? = some (.cells (vrow 266 T.at) 35) ∧ wr.heap[w.heap.size + 1]? = some (.cells (vrow 266 Sh.zero.at) 35) ∧ wr.heap[g]? = some (.cells (vrow (cap * 2) f) 40) ∧ Below w.heap.size w wr) (fun _ jv _ => 0)
            case atStart => exact ⟨rfl, rfl, SB.out, Z.out, G.out, hB.out⟩
            case round =>
              obtain ⟨rfl, rfl, SB1, Z1, G1, hB1⟩ := hrel
              go_wp2
              go_roundw
              case rel => exact ⟨k + 1, by omega, by go_num, by first | (rw [hst]; done) | (rw [hst]; rfl), by rw [hst]; exact SB1, Z1, G1, hB1⟩
              case measure => simp [intOf]; omega
        · obtain ⟨g2, cap2, f2, rfl, hg2, hcap2, hO2, hf2⟩ := hO.row (by omega)
          have N := Go.Lib.hid hO2; have HF2 := Go.Lib.hid hf2
          have hg2B : w.heap.size + 2 ≤ g2 := by omega
          clear hO hO2 hf2 hb hg2
          obtain ⟨wo, hwo⟩ : ∃ wo : World, wo = w2 := ⟨_, rfl⟩
          rw [← hwo] at SB Z G N hB ⊢
          clear hwo w2
          go_loopw [4, 8] (fun nv jv wr => ∃ j : Nat, j ≤ M.length ∧ jv = .int .i64 j ∧ nv = .int .i64 ((M.take j).foldl (gv x y) (T, n)).2 ∧ wr.heap[w.heap.size]? = some (.cells (vrow 266 ((M.take j).foldl (gv x y) (T, n)).1.at) 35) ∧ wr.heap[w.heap.size + 1]? = some (.cells (vrow 266 Sh.zero.at) 35) ∧ wr.heap[g]? = some (.cells (vrow (cap * 2) f) 40) ∧ wr.heap[g2]? = some (.cells (vrow (cap2 * 2) f2) 40) ∧ Below w.heap.size w wr) (fun _ jv _ => M.length - (intOf jv).toNat)
          case atStart => exact ⟨0, by omega, rfl, rfl, SB.out, Z.out, G.out, N.out, hB.out⟩
          case round =>
            clear SB Z G N hB
            obtain ⟨j, hj, rfl, rfl, SB, Z, G, N, hB⟩ := hrel
            obtain ⟨hgd2, e1, e2⟩ := HFD.out j
            have hlenj : (M.take j).length ≤ 4 := by rw [List.length_take]; omega
            replace SB := Go.Lib.hid SB; replace Z := Go.Lib.hid Z; replace G := Go.Lib.hid G; replace N := Go.Lib.hid N; replace hB := Go.Lib.hid hB
            by_cases hlj : j < M.length
            · have hs2 : (M.take (j + 1)).foldl (gv x y) (T, n) = gv x y ((M.take j).foldl (gv x y) (T, n)) (M[j]'hlj) := by
                rw [List.take_succ_eq_append_getElem hlj, List.foldl_append]; rfl
              have hq := hMM _ (List.getElem_mem hlj)
              have HFj := HF2.out j hlj
              have HR2 := Go.Lib.hid (row_spot f2 (j * 2) (M[j]'hlj) HFj)
              obtain ⟨⟨⟨u, v⟩, hu, hv⟩, hp⟩ : ∃ p, M[j]'hlj = p := ⟨_, rfl⟩
              rw [hp] at hs2 hq HR2
              clear hp HFj
              replace hu : u < 8 := hu
              replace hv : v < 8 := hv
              obtain ⟨f2q, hne⟩ : freeB s u v = true ∧ 8 * y + x ≠ 8 * v + u := hq
              replace HR2 : Hid (vrow 2 (fun i => f2 (j * 2 + i)) = #[.int .i8 u, .int .i8 v]) := HR2
              have HRV2 : Hid (vrow 2 (fun i => f2 (j * 2 + i)) = vrow 2 (spAt u v)) := HR2
              generalize hTj : (M.take j).foldl (gv x y) (T, n) = TM at *
              obtain ⟨U, m⟩ := TM
              change Gd s U at hgd2
              change n ≤ m at e1
              change m ≤ n + ((M.take j).length : Int) at e2
              have hs3 : gv x y (U, m) ⟨(u, v), hu, hv⟩ = if 2 ≤ U.wet (8 * y + x) - U.wet (8 * v + u) then (giveS U x y u v, m + 1) else (U, m) := rfl
              rw [hs3] at hs2
              clear hs3
              have HWA0 := fun w0 (ht : w0.heap[w.heap.size]? = some (.cells (vrow 266 U.at) 35)) => l02Wet_any U w.heap.size x y w0 ht hgd2.fit hx hy
              have HWB0 := fun w0 (ht : w0.heap[w.heap.size]? = some (.cells (vrow 266 U.at) 35)) => l02Wet_any U w.heap.size u v w0 ht hgd2.fit hu hv
              obtain ⟨⟨b1, b2⟩, _⟩ := ok_bounds U hgd2.ok x y hx hy
              obtain ⟨⟨b3, b4⟩, _⟩ := ok_bounds U hgd2.ok u v hu hv
              have HGV := Go.Lib.hid fun w0 (ht : w0.heap[w.heap.size]? = some (.cells (vrow 266 U.at) 35)) (h2 : 2 ≤ U.wet (8 * y + x) - U.wet (8 * v + u)) => giveC U w.heap.size x y u v w0 ht hx hy hu hv hne hgd2.ink ⟨by omega, b2⟩ ⟨b3, by omega⟩ hgd2.fit
              rw [show wetF U x y = U.wet (8 * y + x) from rfl] at HWA0
              rw [show wetF U u v = U.wet (8 * v + u) from rfl] at HWB0
              generalize U.wet (8 * y + x) = wa at *
              generalize U.wet (8 * v + u) = wb at *
              have HWA := Go.Lib.hid HWA0; have HWB := Go.Lib.hid HWB0
              clear HWA0 HWB0
              have hjI : (j : Int) < (M.length : Int) := by omega
              have hj0 : (0 : Int) ≤ (j : Int) := by omega
              have hjd : decide ((j : Int) < (M.length : Int)) = true := by simpa using hjI
              by_cases hge : 2 ≤ wa - wb
              · have hdg : decide (2 ≤ wa - wb) = true := by simpa using hge
                rw [if_pos hge] at hs2
                go_wp2
                (refine region_at (by kernel_rfl) (by kernel_rfl) ?_; intro W hW; rw [hW] at hB SB Z G N; clear hW; have G' := Go.Lib.hid (cls_row' G.out); have N' := Go.Lib.hid (cls_row' N.out); (repeat (first | go_big_quiet_skip | (refine wpQuiet_loadmid 40 _ rfl (by first | exact want_n rfl | exact want_g _ _ _ rfl rfl rfl) g (k * 2) rfl (cap * 2) 2 f _ rw_spot size_spot G'.out (by omega) ?_; rw [HR.out]; simp only [Act.put, List.setIfInBounds_toArray, List.set_cons_succ, List.set_cons_zero]) | (refine wpQuiet_loadmid 40 _ rfl (by first | exact want_n rfl | exact want_g _ _ _ rfl rfl rfl) g2 (j * 2) rfl (cap2 * 2) 2 f2 _ rw_spot size_spot N'.out (by omega) ?_; rw [HR2.out]; simp only [Act.put, List.setIfInBounds_toArray, List.set_cons_succ, List.set_cons_zero]) | go_big_quiet_step ((go_at_call 58; first | with_reducible exact cls_call _ (fun w hw => HWA.out _ (row_next hw SB.out)) | with_reducible exact cls_call _ (fun w hw => HWB.out _ (row_next hw SB.out)))))); refine wpQuiet_nil ?_; intro Wn hb; replace SB := Go.Lib.hid (row_next hb SB.out); replace Z := Go.Lib.hid (row_next hb Z.out); replace G := Go.Lib.hid (row_next hb G.out); replace N := Go.Lib.hid (row_next hb N.out); replace hB := Go.Lib.hid (below_next hB.out hb); clear hb G' N')
                go_wp2
                refine wp_region_noPanic ?_
                refine wp_region_held_drew (S := fun W' => Below w.heap.size w W' ∧ W'.heap[w.heap.size + 1]? = some (.cells (vrow 266 Sh.zero.at) 35) ∧ W'.heap[g]? = some (.cells (vrow (cap * 2) f) 40) ∧ W'.heap[g2]? = some (.cells (vrow (cap2 * 2) f2) 40)) (by kernel_rfl) ⟨hB.out.drew, Z.out, G.out, N.out⟩ (fun hH => ?_)
                have SB2 := drew_row SB.out
                clear hB Z G N SB
                generalize World.drew _ = Wd at hH SB2 ⊢
                refine wpAnyH_take (i := 0) (v := (.slice (some ⟨g, 0, none⟩) L.length cap)) rfl (by kernel_rfl) (by kernel_rfl) (by kernel_rfl) (fun _ _ _ h => h) (.inl ⟨by kernel_rfl, fun w _ => by go_simp⟩) hH ?_
                (try simp only [Act.put, List.setIfInBounds_toArray, List.set_cons_succ, List.set_cons_zero])
                refine wpAnyH_take (i := 1) (v := (.int .i64 k)) rfl (by kernel_rfl) (by kernel_rfl) (by kernel_rfl) (fun _ _ _ h => h) (.inl ⟨by kernel_rfl, fun w _ => by go_simp⟩) hH ?_
                (try simp only [Act.put, List.setIfInBounds_toArray, List.set_cons_succ, List.set_cons_zero])
                refine wpAnyH_take (i := 2) (v := (.pointer (some ⟨g, k * 2, none⟩))) rfl (by kernel_rfl) (by kernel_rfl) (by kernel_rfl) (fun _ _ _ h => h) (.inl ⟨by kernel_rfl, fun w _ => by go_simp⟩) hH ?_
                (try simp only [Act.put, List.setIfInBounds_toArray, List.set_cons_succ, List.set_cons_zero])
                refine wpAnyH_take (i := 3) (v := (.agg (vrow 2 (spAt x y)))) rfl (by kernel_rfl) (by kernel_rfl) (by kernel_rfl) (fun _ _ _ h => h) (yields_mid (by kernel_rfl) 40 _ rfl g (k * 2) (by kernel_rfl) (cap * 2) 2 f _ (by omega) 40 _ Tryd.underlying40 rfl size_spot HRV.out (fun _ h => h.2.2.1)) hH ?_
                (try simp only [Act.put, List.setIfInBounds_toArray, List.set_cons_succ, List.set_cons_zero])
                refine wpAnyH_take (i := 4) (v := (.slice (some ⟨g2, 0, none⟩) M.length cap2)) rfl (by kernel_rfl) (by kernel_rfl) (by kernel_rfl) (fun _ _ _ h => h) (.inl ⟨by kernel_rfl, fun w _ => by go_simp⟩) hH ?_
                (try simp only [Act.put, List.setIfInBounds_toArray, List.set_cons_succ, List.set_cons_zero])
                refine wpAnyH_take (i := 5) (v := (.int .i64 j)) rfl (by kernel_rfl) (by kernel_rfl) (by kernel_rfl) (fun _ _ _ h => h) (.inl ⟨by kernel_rfl, fun w _ => by go_simp⟩) hH ?_
                (try simp only [Act.put, List.setIfInBounds_toArray, List.set_cons_succ, List.set_cons_zero])
                refine wpAnyH_take (i := 6) (v := (.pointer (some ⟨g2, j * 2, none⟩))) rfl (by kernel_rfl) (by kernel_rfl) (by kernel_rfl) (fun _ _ _ h => h) (.inl ⟨by kernel_rfl, fun w _ => by go_simp⟩) hH ?_
                (try simp only [Act.put, List.setIfInBounds_toArray, List.set_cons_succ, List.set_cons_zero])
                refine wpAnyH_take (i := 7) (v := (.agg (vrow 2 (spAt u v)))) rfl (by kernel_rfl) (by kernel_rfl) (by kernel_rfl) (fun _ _ _ h => h) (yields_mid (by kernel_rfl) 40 _ rfl g2 (j * 2) (by kernel_rfl) (cap2 * 2) 2 f2 _ (by omega) 40 _ Tryd.underlying40 rfl size_spot HRV2.out (fun _ h => h.2.2.2)) hH ?_
                (try simp only [Act.put, List.setIfInBounds_toArray, List.set_cons_succ, List.set_cons_zero])
                refine wpAnyH_ready (rs := [8]) (by kernel_rfl) (by simp) (AllReadyH.cons rfl (fun K hK => ?_) AllReadyH.nil)
                rw [if_pos (by kernel_rfl)]
                go_simp
                go_at_call 85
                refine (HGV.out _ SB2 hge).mono ?_
                rintro o X1 ⟨⟨rr, rfl⟩, hg, hP1⟩
                have nSB := row_lt SB2
                have nZ := row_lt hH.2.1
                have nG := row_lt hH.2.2.1
                have nN := row_lt hH.2.2.2
                replace hH : Below w.heap.size w X1 ∧ X1.heap[w.heap.size + 1]? = some (.cells (vrow 266 Sh.zero.at) 35) ∧ X1.heap[g]? = some (.cells (vrow (cap * 2) f) 40) ∧ X1.heap[g2]? = some (.cells (vrow (cap2 * 2) f2) 40) := ⟨hH.1.grown hg (by omega) (fun q hq => by cases hq; omega), (hg.block _ nZ (by simp <;> omega)).trans hH.2.1, (hg.block _ nG (by simp <;> omega)).trans hH.2.2.1, (hg.block _ nN (by simp <;> omega)).trans hH.2.2.2⟩
                clear hg SB2 nSB nZ nG nN
                refine hK.out _ _ hH (fun hH => ?_)
                clear hK K
                (try simp only [Act.put, List.setIfInBounds_toArray, List.set_cons_succ, List.set_cons_zero])
                refine wpAnyH_done (by kernel_rfl) ?_ _
                refine NoPanic.normal ?_
                (try simp only [List.getElem_toArray, List.getElem_cons_succ, List.getElem_cons_zero, Act.put, List.setIfInBounds_toArray, List.set_cons_succ, List.set_cons_zero])
                obtain ⟨hB, Z, G, N⟩ := hH
                replace hB := Go.Lib.hid hB; replace Z := Go.Lib.hid Z; replace G := Go.Lib.hid G; replace N := Go.Lib.hid N; have SB := Go.Lib.hid hP1
                clear hP1
                go_wp2
                go_roundw
                case rel => exact ⟨j + 1, by omega, by go_num, by rw [hs2], by rw [hs2]; exact SB.out, Z.out, G.out, N.out, hB.out⟩
                case measure => simp [intOf]; omega
              · have hdg : decide (2 ≤ wa - wb) = false := by simpa using hge
                rw [if_neg hge] at hs2
                go_wp2
                (refine region_at (by kernel_rfl) (by kernel_rfl) ?_; intro W hW; rw [hW] at hB SB Z G N; clear hW; have G' := Go.Lib.hid (cls_row' G.out); have N' := Go.Lib.hid (cls_row' N.out); (repeat (first | go_big_quiet_skip | (refine wpQuiet_loadmid 40 _ rfl (by first | exact want_n rfl | exact want_g _ _ _ rfl rfl rfl) g (k * 2) rfl (cap * 2) 2 f _ rw_spot size_spot G'.out (by omega) ?_; rw [HR.out]; simp only [Act.put, List.setIfInBounds_toArray, List.set_cons_succ, List.set_cons_zero]) | (refine wpQuiet_loadmid 40 _ rfl (by first | exact want_n rfl | exact want_g _ _ _ rfl rfl rfl) g2 (j * 2) rfl (cap2 * 2) 2 f2 _ rw_spot size_spot N'.out (by omega) ?_; rw [HR2.out]; simp only [Act.put, List.setIfInBounds_toArray, List.set_cons_succ, List.set_cons_zero]) | go_big_quiet_step ((go_at_call 58; first | with_reducible exact cls_call _ (fun w hw => HWA.out _ (row_next hw SB.out)) | with_reducible exact cls_call _ (fun w hw => HWB.out _ (row_next hw SB.out)))))); refine wpQuiet_nil ?_; intro Wn hb; replace SB := Go.Lib.hid (row_next hb SB.out); replace Z := Go.Lib.hid (row_next hb Z.out); replace G := Go.Lib.hid (row_next hb G.out); replace N := Go.Lib.hid (row_next hb N.out); replace hB := Go.Lib.hid (below_next hB.out hb); clear hb G' N')
                go_wp2
                go_roundw
                case rel => exact ⟨j + 1, by omega, by go_num, by rw [hs2], by rw [hs2]; exact SB.out, Z.out, G.out, N.out, hB.out⟩
                case measure => simp [intOf]; omega
            · obtain rfl : j = M.length := by omega
              have hjd : decide ((M.length : Int) < (M.length : Int)) = false := by simp
              rw [List.take_length] at SB ⊢
              rw [← hst] at SB ⊢
              go_wp2
              go_roundw
              case rel => exact ⟨k + 1, by omega, by go_num, rfl, SB.out, Z.out, G.out, hB.out⟩
              case measure => simp [intOf]; omega
      · rw [wax_like hgd, hwx] at HWX
        rw [hwx, if_pos rfl] at hst
        go_wp2_with (first
          | go_skip
          | (with_reducible refine wlAt 19 rfl ?_; refine wpList_loadmid rfl 40 (.tmp 18) rfl g (k * 2) rfl (cap * 2) 2 f 40 _ Tryd.underlying40 rfl size_spot G.out (by omega) ?_; rw [HR.out])
          | (go_at_call 89; (refine (HWX.out _ SB.out).mono ?_; rintro e w1 ⟨rfl, hb⟩; replace SB := Go.Lib.hid (row_next hb SB.out); replace Z := Go.Lib.hid (row_next hb Z.out); replace G := Go.Lib.hid (row_next hb G.out); replace hB := Go.Lib.hid (below_next hB.out hb); clear hb)))
        go_roundw
        case rel => exact ⟨k + 1, by omega, by go_num, by rw [hst], by rw [hst]; exact SB.out, Z.out, G.out, hB.out⟩
        case measure => simp [intOf]; omega
    · obtain rfl : k = L.length := by omega
      have hkd : decide ((L.length : Int) < (L.length : Int)) = false := by simp
      rw [List.take_length] at SB c1 c2 hgd ⊢
      generalize hTN : runS s L = TN at *
      obtain ⟨T, n⟩ := TN
      go_wp2_with (first
        | go_skip
        | (with_reducible refine wlAt 55 rfl ?_; refine wpList_loadall rfl 35 (.tmp 1) rfl _ rfl 266 T.at 35 _ Tryd.underlying35 rfl size_sheet SB.out ?_)
        | (with_reducible refine wlOp (.store 35 (.tmp 2) (.tmp 55)) rfl ?_; refine wpList_storeall rfl 35 (.tmp 2) (.tmp 55) rfl (w.heap.size + 1) rfl 266 Sh.zero.at T.at rfl 35 size_sheet Z.out (fun i _ => Sh.one _ i) ?_; replace Z := Go.Lib.hid (row_set Z.out (vrow 266 T.at)); replace hB := Go.Lib.hid (Below_setRow hB.out (show w.heap.size ≤ w.heap.size + 1 by omega) (vrow 266 T.at))))
      exact ret_row2 Tryd.results74 (w.heap.size + 1) 266 T.at 35 _ Tryd.underlying35 rfl size_sheet (.int .i64 n) rfl rfl rfl Z.out ⟨by first | rfl | rw [hTN], hB.out⟩
end Go.Proofs.YtgbhchmpeioaiaaDoor
