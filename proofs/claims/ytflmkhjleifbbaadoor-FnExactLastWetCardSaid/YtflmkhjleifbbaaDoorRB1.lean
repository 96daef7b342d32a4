import Derived.Deep.RegionHeld3
import Derived.Test.YtflmkhjleifbbaaDoorRA
import Derived.Test.YtflmkhjleifbbaaDoorIdry
import Derived.Test.YtflmkhjleifbbaaDoorImplW
import Derived.Test.YtflmkhjleifbbaaDoorCodeOf
import Derived.Test.YtflmkhjleifbbaaDoorLdry
namespace Go.Proofs.YtflmkhjleifbbaaDoor
open Go.RowKit
set_option maxRecDepth 100000
set_option linter.unusedVariables false
set_option linter.unusedSimpArgs false
theorem own_row_geR {W : World} {base g cap size n : Nat} {t : TypeId} {xs : List Value} (h : W.ownsRow base t size (.slice (some ⟨g, 0, none⟩) n cap) n xs) : base ≤ g := by
  rcases h.2 with ⟨hv, _⟩ | ⟨g', cap', cur, hv, hb, _⟩
  · cases hv
  · simp only [Value.slice.injEq, Option.some.injEq, Addr.mk.injEq] at hv
    obtain ⟨⟨rfl, _⟩, _, rfl⟩ := hv
    exact hb
theorem keep_atR {A B : World} {row : Option Nat} {b : Nat} {x : Obj} (g : A.grownBy B row) (hx : A.heap[b]? = some x) (hr : ∀ r, row = some r → b ≠ r) : B.heap[b]? = some x :=
  (g.block b (row_lt hx) (fun e => absurd rfl (hr b e.symm))).trans hx
theorem GRow.keepR {W W' : World} {gp gl : Nat} {s : Sh} {l : List Sp8} {f f2 : Nat → Value} (h : GRow W gp gl s l f f2) {row : Option Nat} (g : W.grownBy W' row) (h1 : ∀ r, row = some r → gp ≠ r) (h2 : ∀ r, row = some r → gl ≠ r) : GRow W' gp gl s l f f2 :=
  ⟨keep_atR g h.pl h1, keep_atR g h.li h2, h.hl, h.at_, h.nb⟩
theorem GRow.next {W W' : World} {gp gl : Nat} {s : Sh} {l : List Sp8} {f f2 : Nat → Value} (h : GRow W gp gl s l f f2) (hb : Below W.heap.size W W') : GRow W' gp gl s l f f2 := h.keepR (grown_next (grown_refl _ none) hb) (fun r e => by cases e) (fun r e => by cases e)
theorem GRow.allocR {W : World} {gp gl : Nat} {s : Sh} {l : List Sp8} {f f2 : Nat → Value} (h : GRow W gp gl s l f f2) (x : Obj) : GRow (W.alloc x) gp gl s l f f2 := h.keepR (grown_alloc (grown_refl _ none) x) (fun r e => by cases e) (fun r e => by cases e)
theorem GRow.setR {W : World} {gp gl g : Nat} {s : Sh} {l : List Sp8} {f f2 : Nat → Value} (h : GRow W gp gl s l f f2) (h1 : gp ≠ g) (h2 : gl ≠ g) (cs : Array Value) : GRow (W.setRow g cs) gp gl s l f f2 := h.keepR (grown_set (grown_refl W (some g)) cs) (fun r e => by cases e; exact h1) (fun r e => by cases e; exact h2)
theorem GRow.drewR {W : World} {gp gl : Nat} {s : Sh} {l : List Sp8} {f f2 : Nat → Value} (h : GRow W gp gl s l f f2) : GRow W.drew gp gl s l f f2 := h.keepR (grown_drew (grown_refl W none)) (fun r e => by cases e) (fun r e => by cases e)
theorem GRow.pl_at {W : World} {gp gl : Nat} {s : Sh} {l : List Sp8} {f f2 : Nat → Value} (h : GRow W gp gl s l f f2) (k : Nat) (hk : k < l.length) : ∃ bv, vrow 3 (fun q => f (k * 3 + q)) = vrow 3 (plf (l[k]'hk).1.1 (l[k]'hk).1.2 bv) ∧ ∀ i, (plf (l[k]'hk).1.1 (l[k]'hk).1.2 bv i).oneCell' = true :=
  ⟨besV gl (nbAll s (l.take k)).length ((nbAll s (l.take k)).length + (nbs s (l[k]'hk).1.1 (l[k]'hk).1.2 4).length), h.at_ k hk, plf_one _ _ _ rfl⟩
/-- the water of a block -/
def wmN (cs : Array Value) : Nat → Nat
  | 0 => 0
  | i + 1 => wmN cs i + (intOf (cs.getD (2 + i) undef)).toNat
def wmeas (b : Nat) (W : World) : Nat := match W.heap[b]? with
  | some (.cells cs _) => wmN cs 64
  | _ => 0
theorem wmN_eq {T : Sh} (h : ∀ i, i < 64 → 0 ≤ T.wet i) : ∀ k, k ≤ 64 → (wmN (vrow 266 T.at) k : Int) = wsum T k
  | 0, _ => rfl
  | k + 1, hk => by
    have e : (vrow 266 T.at).getD (2 + k) undef = .int .i16 (T.wet k) := by
      rw [show (vrow 266 T.at).getD (2 + k) undef = T.at (2 + k) by unfold vrow; simp; rw [List.getElem?_range (by omega)]; rfl, T.at_wet1 (2 + k) k rfl (by omega)]
    have := h k (by omega)
    show ((wmN (vrow 266 T.at) k + (intOf ((vrow 266 T.at).getD (2 + k) undef)).toNat : Nat) : Int) = wsum T k + T.wet k
    rw [e, Int.natCast_add, wmN_eq h k (by omega)]
    show wsum T k + ((T.wet k).toNat : Int) = _
    omega
theorem wmeas_eq {T : Sh} {W : World} {b : Nat} (hb : W.heap[b]? = some (.cells (vrow 266 T.at) 34)) (h : ∀ i, i < 64 → 0 ≤ T.wet i) : (wmeas b W : Int) = wsum T 64 := by
  unfold wmeas; rw [hb]; exact wmN_eq h 64 (Nat.le_refl _)
theorem gr_ne1 {W : World} {gp gl : Nat} {s : Sh} {l : List Sp8} {f f2 : Nat → Value} (h : GRow W gp gl s l f f2) {b : Nat} {g : Nat → Value} (hb : W.heap[b]? = some (.cells (vrow 64 g) 37)) : gp ≠ b := fun e => by
  have := h.pl; rw [e, hb] at this; injection this with e1; injection e1 with e2 e3; revert e3; decide
theorem gr_ne2 {W : World} {gp gl : Nat} {s : Sh} {l : List Sp8} {f f2 : Nat → Value} (h : GRow W gp gl s l f f2) {b : Nat} {g : Nat → Value} (hb : W.heap[b]? = some (.cells (vrow 64 g) 37)) : gl ≠ b := fun e => by
  have := h.li; rw [e, hb] at this; injection this with e1; injection e1 with e2 e3; revert e3; decide
set_option maxHeartbeats 16000000 in
theorem irings_any (s : Sh) (a c N : Nat) (w : World) (ea : s.wide = a) (ec : s.high = c) (ha : 1 ≤ a ∧ a ≤ 8) (hc : 1 ≤ c ∧ c ≤ 8) (hf : s.fit) (ho : okI s = true) (hi : InkOk s) (hN : N ≤ 12800) (hz : wsum (dryT s (cellsL a c) N) 64 = 0) (hnz : ∀ j, j < N → wsum (dryT s (cellsL a c) j) 64 ≠ 0) : Calls Tryd.prog 29 #[.agg s.row] w fun o w' => o = .returned (.agg (vrow 64 (rgf (progR s (cellsL a c) (dryL s (cellsL a c)) N)))) ∧ Below w.heap.size w w' := by
  have HGR := Go.Lib.hid fun w => ground_any s a c w ea ec ha.2 hc.2 ho
  have hrd := rd_in ea ec ha.2 hc.2 ho
  have HG := Go.Lib.hid fun k => dt_gd hrd hi hf k
  have HWP := Go.Lib.hid fun k i hi9 => (wet_pos (dt_gd hrd hi hf k) i hi9).1
  have HLS := Go.Lib.hid fun k => dt_less hrd hi hf k
  have hnd : ((dryL s (cellsL a c)).map pix).Nodup := (List.filter_sublist.map pix).nodup hrd.nodup
  have HPL := Go.Lib.hid fun k i => progR_le s (cellsL a c) (dryL s (cellsL a c)) hnd k i
  have HDR := Go.Lib.hid fun (T : Sh) (hT : Gd s T) mt gp gl f f2 w hG ht => idry_any s T (dryL s (cellsL a c)) mt gp gl f f2 w ho hG ht hT hnd
  have HFD := Go.Lib.hid fun (T : Sh) (hT : Gd s T) => (show (dryL s (cellsL a c)).foldl (cellDry s T) (T, 0) = (cellsL a c).foldl (cellDry s T) (T, 0) from dry_filter hT (cellsL a c) hrd.mem (T, 0))
  have HWQ := Go.Lib.hid fun (T : Sh) (hT : Gd s T) => water_eq T hT.ok
  have HWT1 := Go.Lib.hid fun (T : Sh) (hT : Gd s T) w => water_any T w hT.fit (by rw [hT.wide]; omega) (by rw [hT.wide]; omega) (by rw [hT.high]; omega) (by rw [hT.high]; omega)
  have HTK := Go.Lib.hid fun (T : Sh) (r : Nat → Int) k i => incR_le T ((dryL s (cellsL a c)).take k) r (by rw [List.map_take]; exact (List.take_sublist _ _).nodup hnd) i
  have hll : (dryL s (cellsL a c)).length ≤ 64 := Nat.le_trans (dryL_len s _) (by rw [cellsL_length]; exact Nat.mul_le_mul ha.2 hc.2)
  clear hf ho hi ea ec ha hc hnd hrd
  have HZ := Go.Lib.hid hz; have HNZ := Go.Lib.hid hnz
  clear hz hnz
  generalize dryL s (cellsL a c) = l at *
  generalize cellsL a c = L at *
  have zp := zero_plc
  have zr := zero_rg
  have hB : Hid (Below w.heap.size w ((w.alloc (.cells (vrow 266 s.at) 34)).alloc (.cells (vrow 64 (rgf fun _ => 0)) 37))) := Go.Lib.hid (((Below.refl w.heap.size w).alloc (by simp <;> omega) _).alloc (by simp <;> omega) _)
  have P : Hid (((w.alloc (.cells (vrow 266 s.at) 34)).alloc (.cells (vrow 64 (rgf fun _ => 0)) 37)).heap[w.heap.size]? = some (.cells (vrow 266 s.at) 34)) := heap_past _ _ _ _ (by first | omega | (simp <;> omega)) (heap_at _ _ _ (by simp))
  have Z : Hid (((w.alloc (.cells (vrow 266 s.at) 34)).alloc (.cells (vrow 64 (rgf fun _ => 0)) 37)).heap[w.heap.size + 1]? = some (.cells (vrow 64 (rgf fun _ => 0)) 37)) := heap_at _ _ _ (by simp)
  go_enter Tryd.func29, Tryd.ntmps29
  go_wp2
  refine Code.wp_mono (Q := fun ex a' W' => ∃ gp gl bb f f2, ex = .normal ∧ a' = { tmps := #[.agg s.row, .pointer (some ⟨w.heap.size, 0, none⟩), .pointer (some ⟨w.heap.size + 1, 0, none⟩), .pointer (some ⟨bb, 0, none⟩), .slice (some ⟨gp, 0, none⟩) l.length 64, undef, undef, undef, undef, .agg (vrow 64 (rgf fun _ => -1)), .agg s.row, .slice (some ⟨gp, 0, none⟩) l.length 64, undef, undef, undef, undef, undef, undef, undef, undef, undef, undef, undef, undef, undef, undef, undef, undef, undef, undef, undef, undef, undef, undef, undef, undef, undef, undef, undef, undef, undef, undef, undef, undef, undef, undef, undef, undef, undef, undef, undef, undef, undef, undef, undef, undef, undef, undef, undef, undef, undef, undef, undef], defers := [] } ∧ W'.heap[w.heap.size]? = some (.cells (vrow 266 s.at) 34) ∧ W'.heap[w.heap.size + 1]? = some (.cells (vrow 64 (rgf fun _ => 0)) 37) ∧ W'.heap[bb]? = some (.cells (vrow 64 (rgf fun _ => -1)) 37) ∧ GRow W' gp gl s l f f2 ∧ Below w.heap.size w W' ∧ w.heap.size + 1 < bb ∧ w.heap.size + 1 < gp ∧ w.heap.size + 1 < gl) ?_ ?_
  rotate_left
  · refine wp_region_held_drew (S := fun W' => W'.heap[w.heap.size]? = some (.cells (vrow 266 s.at) 34) ∧ W'.heap[w.heap.size + 1]? = some (.cells (vrow 64 (rgf fun _ => 0)) 37) ∧ Below w.heap.size w W') (by kernel_rfl) ⟨P.out, Z.out, hB.out.drew⟩ (fun hH => ?_)
    clear hB Z P
    generalize World.drew _ = Wd at hH ⊢
    refine wpAnyH_take (i := 1) (v := (.agg (vrow 266 s.at))) rfl (by kernel_rfl) (by kernel_rfl) (by kernel_rfl) (fun _ _ _ h => by obtain ⟨_, _, _, _, _, h1, _⟩ := h; cases h1) (yields_row (by kernel_rfl) 34 _ rfl w.heap.size rfl 266 s.at 34 _ Tryd.underlying34 rfl size_sheet (fun _ h => h.1)) hH ?_
    (try simp only [List.getElem_toArray, List.getElem_cons_succ, List.getElem_cons_zero, Act.put, List.setIfInBounds_toArray, List.set_cons_succ, List.set_cons_zero])
    refine wpAnyH_ready (rs := [0, 3]) (by kernel_rfl) (by simp) (AllReadyH.cons rfl (fun K hK => ?_) (AllReadyH.cons rfl (fun K hK => ?_) AllReadyH.nil))
    · rw [if_pos (by kernel_rfl)]
      go_simp
      go_at_call 50
      refine (noRings_any _).mono ?_
      rintro o X1 ⟨rfl, hb⟩
      have hH1 : X1.heap[w.heap.size]? = some (.cells (vrow 266 s.at) 34) ∧ X1.heap[w.heap.size + 1]? = some (.cells (vrow 64 (rgf fun _ => 0)) 37) ∧ Below w.heap.size w X1 := ⟨row_next hb hH.1, row_next hb hH.2.1, hH.2.2.trans (hb.mono hH.2.2.size)⟩
      clear hH hb
      refine hK.out _ _ hH1 (fun hH => ?_)
      clear hK K hH1
      (try simp only [List.getElem_toArray, List.getElem_cons_succ, List.getElem_cons_zero, Act.put, List.setIfInBounds_toArray, List.set_cons_succ, List.set_cons_zero])
      refine wpAnyH_ready (rs := [2, 3]) (by kernel_rfl) (by simp) (AllReadyH.cons rfl (fun K hK => ?_) (AllReadyH.cons rfl (fun K hK => ?_) AllReadyH.nil))
      · rw [if_pos (by kernel_rfl)]
        go_simp
        go_at_call 51
        refine (HGR.out _).mono ?_
        rintro o X2 ⟨gp, gl, rfl, hGM, hb⟩
        have n1 := row_lt hH.2.1
        have g1 := own_row_geR hGM.places
        have g2 := own_row_geR hGM.list
        obtain ⟨f, f2, GR⟩ := hGM.rows
        have hgp : w.heap.size + 1 < gp := by omega
        have hgl : w.heap.size + 1 < gl := by omega
        clear hGM g1 g2 n1
        have hH1 : X2.heap[w.heap.size]? = some (.cells (vrow 266 s.at) 34) ∧ X2.heap[w.heap.size + 1]? = some (.cells (vrow 64 (rgf fun _ => 0)) 37) ∧ Below w.heap.size w X2 := ⟨row_next hb hH.1, row_next hb hH.2.1, hH.2.2.trans (hb.mono hH.2.2.size)⟩
        clear hH hb
        refine hK.out _ _ hH1 (fun hH => ?_)
        clear hK K hH1
        (try simp only [List.getElem_toArray, List.getElem_cons_succ, List.getElem_cons_zero, Act.put, List.setIfInBounds_toArray, List.set_cons_succ, List.set_cons_zero])
        refine wpAnyH_ready (rs := [3]) (by kernel_rfl) (by simp) (AllReadyH.cons rfl (fun K hK => ?_) AllReadyH.nil)
        rw [if_pos (by kernel_rfl)]
        go_simp
        have n0 := row_lt hH.1; have n1 := row_lt hH.2.1
        have R0 := heap_at X2 (.cells (vrow 64 (rgf fun _ => 0)) 37) _ rfl
        have hH2 : (X2.alloc (.cells (vrow 64 (rgf fun _ => 0)) 37)).heap[w.heap.size]? = some (.cells (vrow 266 s.at) 34) ∧ (X2.alloc (.cells (vrow 64 (rgf fun _ => 0)) 37)).heap[w.heap.size + 1]? = some (.cells (vrow 64 (rgf fun _ => 0)) 37) ∧ Below w.heap.size w (X2.alloc (.cells (vrow 64 (rgf fun _ => 0)) 37)) := ⟨heap_past _ _ _ _ n0 hH.1, heap_past _ _ _ _ n1 hH.2.1, hH.2.2.alloc hH.2.2.size _⟩
        replace GR := GR.allocR (.cells (vrow 64 (rgf fun _ => 0)) 37)
        clear hH n0
        generalize X2.heap.size = bb at R0 n1 ⊢
        generalize X2.alloc _ = Wa at R0 hH2 GR ⊢
        have hH1 := hH2
        clear hH2
        refine hK.out _ _ hH1 (fun hH => ?_)
        clear hK K hH1
        (try simp only [List.getElem_toArray, List.getElem_cons_succ, List.getElem_cons_zero, Act.put, List.setIfInBounds_toArray, List.set_cons_succ, List.set_cons_zero])
        refine wpAnyH_ready (rs := [4]) (by kernel_rfl) (by simp) (AllReadyH.cons rfl (fun K hK => ?_) AllReadyH.nil)
        rw [if_pos (by kernel_rfl)]
        unfold Oper.wp
        rw [run_storemid 37 (.tmp 3) (.tmp 9) rfl bb 0 rfl 64 64 (rgf fun _ => 0) (rgf fun _ => -1) rfl 37 size_rg R0 (by omega) (fun i _ => rgf_one _ i), vrow_over_all, Oper.upon_skip]
        have q1 := gr_ne1 GR R0; have q2 := gr_ne2 GR R0
        replace GR := GR.setR (g := bb) q1 q2 (vrow 64 (rgf fun _ => -1))
        have R1 := row_set R0 (vrow 64 (rgf fun _ => -1))
        have hH1 := And.intro (row_set' (g := bb) (by omega) hH.1 (vrow 64 (rgf fun _ => -1))) (And.intro (row_set' (g := bb) (by omega) hH.2.1 (vrow 64 (rgf fun _ => -1))) (Below_setRow hH.2.2 (show w.heap.size ≤ bb by omega) (vrow 64 (rgf fun _ => -1))))
        clear hH R0
        generalize World.setRow _ _ _ = Wb at hH1 R1 GR ⊢
        refine hK.out _ _ hH1 (fun hH => ?_)
        clear hK K hH1
        (try simp only [List.getElem_toArray, List.getElem_cons_succ, List.getElem_cons_zero, Act.put, List.setIfInBounds_toArray, List.set_cons_succ, List.set_cons_zero])
        refine wpAnyH_take (i := 5) (v := (.slice (some ⟨gp, 0, none⟩) l.length 64)) rfl (by kernel_rfl) (by kernel_rfl) (by kernel_rfl) (fun _ _ _ h => by obtain ⟨_, _, _, _, _, h1, _⟩ := h; cases h1) (.inl ⟨by kernel_rfl, fun w _ => by go_simp⟩) hH ?_
        (try simp only [List.getElem_toArray, List.getElem_cons_succ, List.getElem_cons_zero, Act.put, List.setIfInBounds_toArray, List.set_cons_succ, List.set_cons_zero])
        refine wpAnyH_done (by kernel_rfl) ?_ _
        exact ⟨gp, gl, bb, f, f2, rfl, rfl, hH.1, hH.2.1, R1, GR, hH.2.2, n1, hgp, hgl⟩
      · rw [if_pos (by kernel_rfl)]
        go_simp
        have n0 := row_lt hH.1; have n1 := row_lt hH.2.1
        have R0 := heap_at X1 (.cells (vrow 64 (rgf fun _ => 0)) 37) _ rfl
        have hH2 : (X1.alloc (.cells (vrow 64 (rgf fun _ => 0)) 37)).heap[w.heap.size]? = some (.cells (vrow 266 s.at) 34) ∧ (X1.alloc (.cells (vrow 64 (rgf fun _ => 0)) 37)).heap[w.heap.size + 1]? = some (.cells (vrow 64 (rgf fun _ => 0)) 37) ∧ Below w.heap.size w (X1.alloc (.cells (vrow 64 (rgf fun _ => 0)) 37)) := ⟨heap_past _ _ _ _ n0 hH.1, heap_past _ _ _ _ n1 hH.2.1, hH.2.2.alloc hH.2.2.size _⟩
        clear hH n0
        generalize X1.heap.size = bb at R0 n1 ⊢
        generalize X1.alloc _ = Wa at R0 hH2 ⊢
        have hH1 := hH2
        clear hH2
        refine hK.out _ _ hH1 (fun hH => ?_)
        clear hK K hH1
        (try simp only [List.getElem_toArray, List.getElem_cons_succ, List.getElem_cons_zero, Act.put, List.setIfInBounds_toArray, List.set_cons_succ, List.set_cons_zero])
        refine wpAnyH_ready (rs := [2]) (by kernel_rfl) (by simp) (AllReadyH.cons rfl (fun K hK => ?_) AllReadyH.nil)
        rw [if_pos (by kernel_rfl)]
        go_simp
        go_at_call 51
        refine (HGR.out _).mono ?_
        rintro o X2 ⟨gp, gl, rfl, hGM, hb⟩
        have n1 := row_lt hH.2.1
        have g1 := own_row_geR hGM.places
        have g2 := own_row_geR hGM.list
        obtain ⟨f, f2, GR⟩ := hGM.rows
        have hgp : w.heap.size + 1 < gp := by omega
        have hgl : w.heap.size + 1 < gl := by omega
        clear hGM g1 g2 n1
        replace R0 := row_next hb R0
        have hH1 : X2.heap[w.heap.size]? = some (.cells (vrow 266 s.at) 34) ∧ X2.heap[w.heap.size + 1]? = some (.cells (vrow 64 (rgf fun _ => 0)) 37) ∧ Below w.heap.size w X2 := ⟨row_next hb hH.1, row_next hb hH.2.1, hH.2.2.trans (hb.mono hH.2.2.size)⟩
        clear hH hb
        refine hK.out _ _ hH1 (fun hH => ?_)
        clear hK K hH1
        (try simp only [List.getElem_toArray, List.getElem_cons_succ, List.getElem_cons_zero, Act.put, List.setIfInBounds_toArray, List.set_cons_succ, List.set_cons_zero])
        refine wpAnyH_ready (rs := [4]) (by kernel_rfl) (by simp) (AllReadyH.cons rfl (fun K hK => ?_) AllReadyH.nil)
        rw [if_pos (by kernel_rfl)]
        unfold Oper.wp
        rw [run_storemid 37 (.tmp 3) (.tmp 9) rfl bb 0 rfl 64 64 (rgf fun _ => 0) (rgf fun _ => -1) rfl 37 size_rg R0 (by omega) (fun i _ => rgf_one _ i), vrow_over_all, Oper.upon_skip]
        have q1 := gr_ne1 GR R0; have q2 := gr_ne2 GR R0
        replace GR := GR.setR (g := bb) q1 q2 (vrow 64 (rgf fun _ => -1))
        have R1 := row_set R0 (vrow 64 (rgf fun _ => -1))
        have hH1 := And.intro (row_set' (g := bb) (by omega) hH.1 (vrow 64 (rgf fun _ => -1))) (And.intro (row_set' (g := bb) (by omega) hH.2.1 (vrow 64 (rgf fun _ => -1))) (Below_setRow hH.2.2 (show w.heap.size ≤ bb by omega) (vrow 64 (rgf fun _ => -1))))
        clear hH R0
        generalize World.setRow _ _ _ = Wb at hH1 R1 GR ⊢
        refine hK.out _ _ hH1 (fun hH => ?_)
        clear hK K hH1
        (try simp only [List.getElem_toArray, List.getElem_cons_succ, List.getElem_cons_zero, Act.put, List.setIfInBounds_toArray, List.set_cons_succ, List.set_cons_zero])
        refine wpAnyH_take (i := 5) (v := (.slice (some ⟨gp, 0, none⟩) l.length 64)) rfl (by kernel_rfl) (by kernel_rfl) (by kernel_rfl) (fun _ _ _ h => by obtain ⟨_, _, _, _, _, h1, _⟩ := h; cases h1) (.inl ⟨by kernel_rfl, fun w _ => by go_simp⟩) hH ?_
        (try simp only [List.getElem_toArray, List.getElem_cons_succ, List.getElem_cons_zero, Act.put, List.setIfInBounds_toArray, List.set_cons_succ, List.set_cons_zero])
        refine wpAnyH_done (by kernel_rfl) ?_ _
        exact ⟨gp, gl, bb, f, f2, rfl, rfl, hH.1, hH.2.1, R1, GR, hH.2.2, n1, hgp, hgl⟩
    · rw [if_pos (by kernel_rfl)]
      go_simp
      have n0 := row_lt hH.1; have n1 := row_lt hH.2.1
      have R0 := heap_at Wd (.cells (vrow 64 (rgf fun _ => 0)) 37) _ rfl
      have hH2 : (Wd.alloc (.cells (vrow 64 (rgf fun _ => 0)) 37)).heap[w.heap.size]? = some (.cells (vrow 266 s.at) 34) ∧ (Wd.alloc (.cells (vrow 64 (rgf fun _ => 0)) 37)).heap[w.heap.size + 1]? = some (.cells (vrow 64 (rgf fun _ => 0)) 37) ∧ Below w.heap.size w (Wd.alloc (.cells (vrow 64 (rgf fun _ => 0)) 37)) := ⟨heap_past _ _ _ _ n0 hH.1, heap_past _ _ _ _ n1 hH.2.1, hH.2.2.alloc hH.2.2.size _⟩
      clear hH n0
      generalize Wd.heap.size = bb at R0 n1 ⊢
      generalize Wd.alloc _ = Wa at R0 hH2 ⊢
      have hH1 := hH2
      clear hH2
      refine hK.out _ _ hH1 (fun hH => ?_)
      clear hK K hH1
      (try simp only [List.getElem_toArray, List.getElem_cons_succ, List.getElem_cons_zero, Act.put, List.setIfInBounds_toArray, List.set_cons_succ, List.set_cons_zero])
      refine wpAnyH_ready (rs := [0]) (by kernel_rfl) (by simp) (AllReadyH.cons rfl (fun K hK => ?_) AllReadyH.nil)
      rw [if_pos (by kernel_rfl)]
      go_simp
      go_at_call 50
      refine (noRings_any _).mono ?_
      rintro o X1 ⟨rfl, hb⟩
      replace R0 := row_next hb R0
      have hH1 : X1.heap[w.heap.size]? = some (.cells (vrow 266 s.at) 34) ∧ X1.heap[w.heap.size + 1]? = some (.cells (vrow 64 (rgf fun _ => 0)) 37) ∧ Below w.heap.size w X1 := ⟨row_next hb hH.1, row_next hb hH.2.1, hH.2.2.trans (hb.mono hH.2.2.size)⟩
      clear hH hb
      refine hK.out _ _ hH1 (fun hH => ?_)
      clear hK K hH1
      (try simp only [List.getElem_toArray, List.getElem_cons_succ, List.getElem_cons_zero, Act.put, List.setIfInBounds_toArray, List.set_cons_succ, List.set_cons_zero])
      refine wpAnyH_ready (rs := [2]) (by kernel_rfl) (by simp) (AllReadyH.cons rfl (fun K hK => ?_) AllReadyH.nil)
      rw [if_pos (by kernel_rfl)]
      go_simp
      go_at_call 51
      refine (HGR.out _).mono ?_
      rintro o X2 ⟨gp, gl, rfl, hGM, hb⟩
      have n1 := row_lt hH.2.1
      have g1 := own_row_geR hGM.places
      have g2 := own_row_geR hGM.list
      obtain ⟨f, f2, GR⟩ := hGM.rows
      have hgp : w.heap.size + 1 < gp := by omega
      have hgl : w.heap.size + 1 < gl := by omega
      clear hGM g1 g2 n1
      replace R0 := row_next hb R0
      have hH1 : X2.heap[w.heap.size]? = some (.cells (vrow 266 s.at) 34) ∧ X2.heap[w.heap.size + 1]? = some (.cells (vrow 64 (rgf fun _ => 0)) 37) ∧ Below w.heap.size w X2 := ⟨row_next hb hH.1, row_next hb hH.2.1, hH.2.2.trans (hb.mono hH.2.2.size)⟩
      clear hH hb
      refine hK.out _ _ hH1 (fun hH => ?_)
      clear hK K hH1
      (try simp only [List.getElem_toArray, List.getElem_cons_succ, List.getElem_cons_zero, Act.put, List.setIfInBounds_toArray, List.set_cons_succ, List.set_cons_zero])
      refine wpAnyH_ready (rs := [4]) (by kernel_rfl) (by simp) (AllReadyH.cons rfl (fun K hK => ?_) AllReadyH.nil)
      rw [if_pos (by kernel_rfl)]
      unfold Oper.wp
      rw [run_storemid 37 (.tmp 3) (.tmp 9) rfl bb 0 rfl 64 64 (rgf fun _ => 0) (rgf fun _ => -1) rfl 37 size_rg R0 (by omega) (fun i _ => rgf_one _ i), vrow_over_all, Oper.upon_skip]
      have q1 := gr_ne1 GR R0; have q2 := gr_ne2 GR R0
      replace GR := GR.setR (g := bb) q1 q2 (vrow 64 (rgf fun _ => -1))
      have R1 := row_set R0 (vrow 64 (rgf fun _ => -1))
      have hH1 := And.intro (row_set' (g := bb) (by omega) hH.1 (vrow 64 (rgf fun _ => -1))) (And.intro (row_set' (g := bb) (by omega) hH.2.1 (vrow 64 (rgf fun _ => -1))) (Below_setRow hH.2.2 (show w.heap.size ≤ bb by omega) (vrow 64 (rgf fun _ => -1))))
      clear hH R0
      generalize World.setRow _ _ _ = Wb at hH1 R1 GR ⊢
      refine hK.out _ _ hH1 (fun hH => ?_)
      clear hK K hH1
      (try simp only [List.getElem_toArray, List.getElem_cons_succ, List.getElem_cons_zero, Act.put, List.setIfInBounds_toArray, List.set_cons_succ, List.set_cons_zero])
      refine wpAnyH_take (i := 5) (v := (.slice (some ⟨gp, 0, none⟩) l.length 64)) rfl (by kernel_rfl) (by kernel_rfl) (by kernel_rfl) (fun _ _ _ h => by obtain ⟨_, _, _, _, _, h1, _⟩ := h; cases h1) (.inl ⟨by kernel_rfl, fun w _ => by go_simp⟩) hH ?_
      (try simp only [List.getElem_toArray, List.getElem_cons_succ, List.getElem_cons_zero, Act.put, List.setIfInBounds_toArray, List.set_cons_succ, List.set_cons_zero])
      refine wpAnyH_done (by kernel_rfl) ?_ _
      exact ⟨gp, gl, bb, f, f2, rfl, rfl, hH.1, hH.2.1, R1, GR, hH.2.2, n1, hgp, hgl⟩
  rintro ex a1 W1 ⟨gp, gl, bb, f, f2, rfl, rfl, p1, z1, v1, gr1, b1, hbb, hgp, hgl⟩
  have hne1 := gr_ne1 gr1 v1; have hne2 := gr_ne2 gr1 v1
  have hl64 := gr1.hl
  clear P Z hB HGR
  go_wp2
  go_loopw [14] (fun kv wr => ∃ k : Nat, k ≤ l.length ∧ kv = .int .i64 k ∧ wr.heap[w.heap.size]? = some (.cells (vrow 266 s.at) 34) ∧ wr.heap[w.heap.size + 1]? = some (.cells (vrow 64 (rgf fun _ => 0)) 37) ∧ wr.heap[bb]? = some (.cells (vrow 64 (rgf (zeroR (l.take k) fun _ => -1))) 37) ∧ GRow wr gp gl s l f f2 ∧ Below w.heap.size w wr) (fun kv _ => l.length - (intOf kv).toNat)
  case atStart => exact ⟨0, by omega, rfl, p1, z1, v1, gr1, b1⟩
  case round =>
    clear p1 z1 v1 gr1 b1
    obtain ⟨k, hk, rfl, P, Z, V, GR, hB⟩ := hrel
    by_cases hlt : k < l.length
    · have hst : zeroR (l.take (k + 1)) (fun _ => -1) = setR (zeroR (l.take k) fun _ => -1) (pix (l[k]'hlt)) 0 := by rw [List.take_succ_eq_append_getElem hlt, zeroR_app]
      have hkI : (k : Int) < (l.length : Int) := by omega
      have hk0 : (0 : Int) ≤ (k : Int) := by omega
      have hkd : decide ((k : Int) < (l.length : Int)) = true := by simpa using hkI
      obtain ⟨bv, hrq, hbz⟩ := GR.pl_at k hlt
      obtain ⟨⟨⟨x, y⟩, hx, hy⟩, hp⟩ : ∃ p, l[k]'hlt = p := ⟨_, rfl⟩
      rw [hp] at hst hrq hbz
      clear hp
      replace hx : x < 8 := hx
      replace hy : y < 8 := hy
      have HRQ : Hid (vrow 3 (fun q => f (k * 3 + q)) = vrow 3 (plf x y bv)) := Go.Lib.hid hrq
      have HBZ : Hid (∀ i, (plf x y bv i).oneCell' = true) := Go.Lib.hid hbz
      clear hrq hbz
      have hxI : (x : Int) < 8 := by omega
      have hyI : (y : Int) < 8 := by omega
      change zeroR (l.take (k + 1)) (fun _ => -1) = setR (zeroR (l.take k) fun _ => -1) (8 * y + x) 0 at hst
      have HST := Go.Lib.hid hst
      clear hst
      generalize zeroR (l.take k) (fun _ => -1) = r at *
      replace P := Go.Lib.hid P; replace Z := Go.Lib.hid Z; replace V := Go.Lib.hid V; replace GR := Go.Lib.hid GR; replace hB := Go.Lib.hid hB
      go_wp2_with (first
        | go_skip
        | ((with_reducible refine wlAt 17 rfl ?_); refine wpList_loadmid rfl 88 (.tmp 16) rfl gp (k * 3) rfl (64 * 3) 3 f 88 _ Tryd.underlying88 rfl size_plc GR.out.pl (by omega) ?_; rw [HRQ.out])
        | ((with_reducible refine wlOp (.store 88 (.tmp 6) (.tmp 17)) rfl ?_); refine wpList_storeall rfl 88 (.tmp 6) (.tmp 17) rfl _ rfl 3 (plf 0 0 (.slice none 0 0)) (plf x y bv) rfl 88 size_plc (heap_at _ _ _ rfl) (fun i _ => HBZ.out i) ?_; rw [setRow_at _ _ _ _ _ rfl]; have PX := Go.Lib.hid (heap_at wr (.cells (vrow 3 (plf x y bv)) 88) _ rfl); have nP := row_lt P.out; replace P := Go.Lib.hid (heap_past _ (.cells (vrow 3 (plf x y bv)) 88) _ _ nP P.out); have nZ := row_lt Z.out; replace Z := Go.Lib.hid (heap_past _ (.cells (vrow 3 (plf x y bv)) 88) _ _ nZ Z.out); have nV := row_lt V.out; replace V := Go.Lib.hid (heap_past _ (.cells (vrow 3 (plf x y bv)) 88) _ _ nV V.out); replace GR := Go.Lib.hid (GR.out.allocR (.cells (vrow 3 (plf x y bv)) 88)); replace hB := Go.Lib.hid (hB.out.alloc hB.out.size (.cells (vrow 3 (plf x y bv)) 88)); generalize wr.heap.size = pbx at PX nP nZ nV ⊢; generalize wr.alloc _ = w2 at P Z V GR PX hB ⊢))
      refine wp_region_still_tail 8 (by kernel_rfl) (by kernel_rfl) ?_
      simp only [List.take_succ_cons, List.take_zero, List.drop_succ_cons, List.drop_zero, World.drew_eq]
      repeat (first
        | (refine wpStill_load1 rfl 22 (.tmp 19) rfl pbx (1) rfl (3) (plf x y bv) _ _ Tryd.underlying22 rfl PX.out (by omega) ?_; rw [plf_1]; simp only [Act.put, List.setIfInBounds_toArray, List.set_cons_succ, List.set_cons_zero])
        | (refine wpStill_load1 rfl 22 (.tmp 22) rfl pbx (0) rfl (3) (plf x y bv) _ _ Tryd.underlying22 rfl PX.out (by omega) ?_; rw [plf_0]; simp only [Act.put, List.setIfInBounds_toArray, List.set_cons_succ, List.set_cons_zero])
        | still_step
        | (refine wpStill_step (fun K hK => ?_); go_simp; simp only [hxI, hyI, if_true]; go_simp; refine hK _ ?_; clear hK K))
      refine wpStill_nil ?_
      refine wpList_store1 rfl 23 (.tmp 25) (.const (.int .i16 0)) rfl bb (y * 8 + x) rfl 64 (rgf r) (.int .i16 0) rfl 37 size_i16 V.out (by omega) rfl ?_
      rw [rgf_set, Nat.mul_comm y 8]
      have P2 := row_set' (w := w2.drew) (g := bb) (by omega) P.out (vrow 64 (rgf (setR r (8 * y + x) 0)))
      have Z2 := row_set' (w := w2.drew) (g := bb) (by omega) Z.out (vrow 64 (rgf (setR r (8 * y + x) 0)))
      have V2 := row_set (w := w2.drew) V.out (vrow 64 (rgf (setR r (8 * y + x) 0)))
      have GR2 := (GR.out.drewR).setR (g := bb) hne1 hne2 (vrow 64 (rgf (setR r (8 * y + x) 0)))
      have hB2 := Below_setRow hB.out.drew (show w.heap.size ≤ bb by omega) (vrow 64 (rgf (setR r (8 * y + x) 0)))
      clear P Z V GR hB PX
      generalize World.setRow w2.drew _ _ = w9 at P2 Z2 V2 GR2 hB2 ⊢
      go_wp2
      go_roundw
      case rel => exact ⟨k + 1, by omega, by go_num, P2, Z2, by rw [HST.out]; exact V2, GR2, hB2⟩
      case measure => simp [intOf]; omega
    · obtain rfl : k = l.length := by omega
      have hkd : decide ((l.length : Int) < (l.length : Int)) = false := by simp
      rw [List.take_length] at V
      go_wp2
      go_loopw [32] (fun _ wr => ∃ k : Nat, k ≤ N ∧ wr.heap[w.heap.size]? = some (.cells (vrow 266 (dryT s L k).at) 34) ∧ wr.heap[w.heap.size + 1]? = some (.cells (vrow 64 (rgf fun _ => 0)) 37) ∧ wr.heap[bb]? = some (.cells (vrow 64 (rgf (progR s L l k))) 37) ∧ GRow wr gp gl s l f f2 ∧ Below w.heap.size w wr) (fun _ wr => wmeas w.heap.size wr)
      case atStart => exact ⟨0, by omega, P, Z, V, GR, hB⟩
      case round =>
        clear P Z V GR hB
        obtain ⟨k, hk, P, Z, V, GR, hB⟩ := hrel
        have q1 := HG.out k
        have hw0 := HWP.out k
        have hm := wmeas_eq P hw0
        have HWT0 := fun w => HWT1.out (dryT s L k) q1 w
        rw [HWQ.out _ q1] at HWT0
        have hD1 := fun w0 hG ht => HDR.out (dryT s L k) q1 w.heap.size gp gl f f2 w0 hG ht
        rw [HFD.out _ q1] at hD1
        have hp0 := HPL.out k
        by_cases hlt2 : k < N
        · have hne := HNZ.out k hlt2
          have hless := HLS.out k hne
          have hw2 := HWP.out (k + 1)
          have hwp := hw0
          have hnx : dryT s L (k + 1) = (L.foldl (cellDry s (dryT s L k)) (dryT s L k, 0)).1 := rfl
          have hpr : progR s L l (k + 1) = incR (dryT s L k) l (progR s L l k) := rfl
          have htk := HTK.out (dryT s L k) (progR s L l k)
          obtain ⟨D, hDe⟩ : ∃ D, dryT s L (k + 1) = D := ⟨_, rfl⟩
          rw [hDe] at hless hw2 hnx
          have HDX := Go.Lib.hid hDe
          clear hDe
          generalize L.foldl (cellDry s (dryT s L k)) (dryT s L k, 0) = TD at *
          obtain ⟨D', m⟩ := TD
          obtain rfl : D = D' := hnx
          generalize dryT s L k = T at *
          have HPR := Go.Lib.hid hpr
          clear hpr
          generalize progR s L l k = r0 at *
          have hwt : 0 < wsum T 64 := by omega
          have hz1 : decide (0 < wsum T 64) = true := by simpa using hwt
          have HM := Go.Lib.hid hm; have HLE := Go.Lib.hid hless
          clear hm hless hne
          generalize wsum T 64 = wt at *
          have HWT := Go.Lib.hid HWT0; have HD := Go.Lib.hid hD1
          clear HWT0 hD1
          replace P := Go.Lib.hid P; replace Z := Go.Lib.hid Z; replace V := Go.Lib.hid V; replace GR := Go.Lib.hid GR; replace hB := Go.Lib.hid hB
          obtain ⟨wq, hwq⟩ : ∃ wq, wmeas w.heap.size wr = wq := ⟨_, rfl⟩
          rw [hwq] at HM ⊢
          clear hwq
          go_wp2_with (first
            | go_skip
            | ((with_reducible refine wlAt 27 rfl ?_); refine wpList_loadall rfl 34 (.tmp 1) rfl w.heap.size rfl 266 (T).at 34 _ Tryd.underlying34 rfl size_sheet P.out ?_)
            | (go_at_call 52; (refine (HWT.out _).mono ?_; rintro o w3 ⟨rfl, hb⟩; replace GR := Go.Lib.hid (GR.out.next hb); replace P := Go.Lib.hid (row_next hb P.out); replace Z := Go.Lib.hid (row_next hb Z.out); replace V := Go.Lib.hid (row_next hb V.out); replace hB := Go.Lib.hid (below_next hB.out hb); clear hb)))
          have p1 := P.out; have z1 := Z.out; have v1 := V.out; have gr1 := GR.out; have b1 := hB.out
          clear P Z V GR hB
          go_loopw [32] (fun kv wr => ∃ k : Nat, k ≤ l.length ∧ kv = .int .i64 k ∧ wr.heap[w.heap.size]? = some (.cells (vrow 266 T.at) 34) ∧ wr.heap[w.heap.size + 1]? = some (.cells (vrow 64 (rgf fun _ => 0)) 37) ∧ wr.heap[bb]? = some (.cells (vrow 64 (rgf (incR T (l.take k) r0))) 37) ∧ GRow wr gp gl s l f f2 ∧ Below w.heap.size w wr) (fun kv _ => l.length - (intOf kv).toNat)
          case atStart => exact ⟨0, by omega, rfl, p1, z1, v1, gr1, b1⟩
          case round =>
            clear p1 z1 v1 gr1 b1
            obtain ⟨i, hi, rfl, P, Z, V, GR, hB⟩ := hrel
            by_cases hlt : i < l.length
            · have hst : incR T (l.take (i + 1)) r0 = if 0 < T.wet (pix (l[i]'hlt)) then setR (incR T (l.take i) r0) (pix (l[i]'hlt)) (incR T (l.take i) r0 (pix (l[i]'hlt)) + 1) else incR T (l.take i) r0 := by rw [List.take_succ_eq_append_getElem hlt, incR_app]
              have hkI : (i : Int) < (l.length : Int) := by omega
              have hk0 : (0 : Int) ≤ (i : Int) := by omega
              have hkd : decide ((i : Int) < (l.length : Int)) = true := by simpa using hkI
              obtain ⟨bv, hrq, hbz⟩ := GR.pl_at i hlt
              obtain ⟨⟨⟨x, y⟩, hx, hy⟩, hp⟩ : ∃ p, l[i]'hlt = p := ⟨_, rfl⟩
              rw [hp] at hst hrq hbz
              clear hp
              replace hx : x < 8 := hx
              replace hy : y < 8 := hy
              have HRQ : Hid (vrow 3 (fun q => f (i * 3 + q)) = vrow 3 (plf x y bv)) := Go.Lib.hid hrq
              have HBZ : Hid (∀ i, (plf x y bv i).oneCell' = true) := Go.Lib.hid hbz
              clear hrq hbz
              have hxI : (x : Int) < 8 := by omega
              have hyI : (y : Int) < 8 := by omega
              change incR T (l.take (i + 1)) r0 = if 0 < T.wet (8 * y + x) then setR (incR T (l.take i) r0) (8 * y + x) (incR T (l.take i) r0 (8 * y + x) + 1) else incR T (l.take i) r0 at hst
              have hr1 := htk i (8 * y + x)
              have hr2 := hp0 (8 * y + x)
              have hwa0 := hw0 (8 * y + x) (by omega)
              generalize incR T (l.take i) r0 = r at *
              obtain ⟨rv, hrv⟩ : ∃ rv, r (8 * y + x) = rv := ⟨_, rfl⟩
              rw [hrv] at hst hr1
              have HRV := Go.Lib.hid (show rgf r (y * 8 + x) = .int .i16 rv by unfold rgf; rw [Nat.mul_comm y 8, hrv])
              obtain ⟨wa, hwa⟩ : ∃ wa, T.wet (8 * y + x) = wa := ⟨_, rfl⟩
              rw [hwa] at hst hwa0
              have HWA := Go.Lib.hid hwa
              clear hrv hwa
              replace P := Go.Lib.hid P; replace Z := Go.Lib.hid Z; replace V := Go.Lib.hid V; replace GR := Go.Lib.hid GR; replace hB := Go.Lib.hid hB
              go_wp2_with (first
                | go_skip
                | ((with_reducible refine wlAt 35 rfl ?_); refine wpList_loadmid rfl 88 (.tmp 34) rfl gp (i * 3) rfl (64 * 3) 3 f 88 _ Tryd.underlying88 rfl size_plc GR.out.pl (by omega) ?_; rw [HRQ.out])
                | ((with_reducible refine wlOp (.store 88 (.tmp 8) (.tmp 35)) rfl ?_); refine wpList_storeall rfl 88 (.tmp 8) (.tmp 35) rfl _ rfl 3 (plf 0 0 (.slice none 0 0)) (plf x y bv) rfl 88 size_plc (heap_at _ _ _ rfl) (fun i _ => HBZ.out i) ?_; rw [setRow_at _ _ _ _ _ rfl]; have PX := Go.Lib.hid (heap_at wr (.cells (vrow 3 (plf x y bv)) 88) _ rfl); have nP := row_lt P.out; replace P := Go.Lib.hid (heap_past _ (.cells (vrow 3 (plf x y bv)) 88) _ _ nP P.out); have nZ := row_lt Z.out; replace Z := Go.Lib.hid (heap_past _ (.cells (vrow 3 (plf x y bv)) 88) _ _ nZ Z.out); have nV := row_lt V.out; replace V := Go.Lib.hid (heap_past _ (.cells (vrow 3 (plf x y bv)) 88) _ _ nV V.out); replace GR := Go.Lib.hid (GR.out.allocR (.cells (vrow 3 (plf x y bv)) 88)); replace hB := Go.Lib.hid (hB.out.alloc hB.out.size (.cells (vrow 3 (plf x y bv)) 88)); generalize wr.heap.size = pbx at PX nP nZ nV ⊢; generalize wr.alloc _ = w2 at P Z V GR PX hB ⊢))
              refine wp_region_still_lit (by kernel_rfl) (by kernel_rfl) ?_
              simp only [World.drew_eq]
              repeat (first
                | (refine wpStill_load1 rfl 22 (.tmp 37) rfl pbx (1) rfl (3) (plf x y bv) _ _ Tryd.underlying22 rfl PX.out (by omega) ?_; rw [plf_1]; simp only [Act.put, List.setIfInBounds_toArray, List.set_cons_succ, List.set_cons_zero])
                | (refine wpStill_load1 rfl 22 (.tmp 40) rfl pbx (0) rfl (3) (plf x y bv) _ _ Tryd.underlying22 rfl PX.out (by omega) ?_; rw [plf_0]; simp only [Act.put, List.setIfInBounds_toArray, List.set_cons_succ, List.set_cons_zero])
                | (refine wpStill_load1 rfl 23 (.tmp 44) rfl w.heap.size (2 + y * 8 + x) rfl 266 T.at _ _ Tryd.underlying23 rfl P.out (by omega) ?_; rw [Sh.at_wet1 _ _ (8 * y + x) (by omega) (by omega), HWA.out]; simp only [Act.put, List.setIfInBounds_toArray, List.set_cons_succ, List.set_cons_zero])
                | still_step
                | (refine wpStill_step (fun K hK => ?_); go_simp; simp only [hxI, hyI, if_true]; go_simp; refine hK _ ?_; clear hK K))
              refine wpStill_nil ?_
              have P2 := drew_row P.out; have Z2 := drew_row Z.out; have V2 := drew_row V.out; have PX2 := drew_row PX.out; have GR2 := GR.out.drewR; have hB2 := hB.out.drew
              clear P Z V GR PX hB
              generalize World.drew w2 = w9 at P2 Z2 V2 PX2 GR2 hB2 ⊢
              by_cases hpos : 0 < wa
              · have hd1 : decide (0 < wa) = true := by simpa using hpos
                rw [if_pos hpos] at hst
                have HST := Go.Lib.hid hst
                clear hst
                have P := Go.Lib.hid P2; have Z := Go.Lib.hid Z2; have V := Go.Lib.hid V2; have PX := Go.Lib.hid PX2; have GR := Go.Lib.hid GR2; have hB := Go.Lib.hid hB2
                clear P2 Z2 V2 PX2 GR2 hB2
                go_wp2
                refine wp_region_still_tail 12 (by kernel_rfl) (by kernel_rfl) ?_
                simp only [List.take_succ_cons, List.take_zero, List.drop_succ_cons, List.drop_zero, World.drew_eq]
                repeat (first
                  | (refine wpStill_load1 rfl 22 (.tmp 48) rfl pbx (1) rfl (3) (plf x y bv) _ _ Tryd.underlying22 rfl PX.out (by omega) ?_; rw [plf_1]; simp only [Act.put, List.setIfInBounds_toArray, List.set_cons_succ, List.set_cons_zero])
                  | (refine wpStill_load1 rfl 22 (.tmp 51) rfl pbx (0) rfl (3) (plf x y bv) _ _ Tryd.underlying22 rfl PX.out (by omega) ?_; rw [plf_0]; simp only [Act.put, List.setIfInBounds_toArray, List.set_cons_succ, List.set_cons_zero])
                  | (refine wpStill_load1 rfl 23 (.tmp 54) rfl bb (y * 8 + x) rfl 64 (rgf r) _ _ Tryd.underlying23 rfl V.out (by omega) ?_; rw [HRV.out]; simp only [Act.put, List.setIfInBounds_toArray, List.set_cons_succ, List.set_cons_zero])
                  | still_step
                  | (refine wpStill_step (fun K hK => ?_); go_simp; simp only [hxI, hyI, if_true]; go_simp; refine hK _ ?_; clear hK K))
                refine wpStill_nil ?_
                refine wpList_store1 rfl 23 (.tmp 58) (.tmp 56) rfl bb (y * 8 + x) rfl 64 (rgf r) (.int .i16 (rv + 1)) (by first | rfl | (show Value.int .i16 (IntKind.i16.wrap (rv + 1)) = _; rw [IntWalk.i16_in (rv + 1) (by omega)])) 37 size_i16 V.out (by omega) rfl ?_
                rw [rgf_set, Nat.mul_comm y 8]
                have P2 := row_set' (w := w9.drew) (g := bb) (by omega) P.out (vrow 64 (rgf (setR r (8 * y + x) (rv + 1))))
                have Z2 := row_set' (w := w9.drew) (g := bb) (by omega) Z.out (vrow 64 (rgf (setR r (8 * y + x) (rv + 1))))
                have V2 := row_set (w := w9.drew) V.out (vrow 64 (rgf (setR r (8 * y + x) (rv + 1))))
                have GR2 := (GR.out.drewR).setR (g := bb) hne1 hne2 (vrow 64 (rgf (setR r (8 * y + x) (rv + 1))))
                have hB2 := Below_setRow hB.out.drew (show w.heap.size ≤ bb by omega) (vrow 64 (rgf (setR r (8 * y + x) (rv + 1))))
                clear P Z V GR hB PX
                generalize World.setRow w9.drew _ _ = w8 at P2 Z2 V2 GR2 hB2 ⊢
                go_wp2
                go_roundw
                case rel => exact ⟨i + 1, by omega, by go_num, P2, Z2, by rw [HST.out]; exact V2, GR2, hB2⟩
                case measure => simp [intOf]; omega
              · have hd1 : decide (0 < wa) = false := by simpa using hpos
                rw [if_neg hpos] at hst
                have HST := Go.Lib.hid hst
                clear hst
                go_wp2
                go_roundw
                case rel => exact ⟨i + 1, by omega, by go_num, P2, Z2, by rw [HST.out]; exact V2, GR2, hB2⟩
                case measure => simp [intOf]; omega
            · obtain rfl : i = l.length := by omega
              have hkd : decide ((l.length : Int) < (l.length : Int)) = false := by simp
              rw [List.take_length] at V
              replace P := Go.Lib.hid P; replace Z := Go.Lib.hid Z; replace V := Go.Lib.hid V; replace GR := Go.Lib.hid GR; replace hB := Go.Lib.hid hB
              go_wp2_with (first
                | go_skip
                | (go_at_call 53; (refine (HD.out _ GR.out P.out).mono ?_; rintro o w5 ⟨rfl, hg, hp⟩; replace Z := Go.Lib.hid (keep_atR hg Z.out (fun r e => by cases e; omega)); replace V := Go.Lib.hid (keep_atR hg V.out (fun r e => by cases e; omega)); replace GR := Go.Lib.hid (GR.out.keepR hg (fun r e => by cases e; omega) (fun r e => by cases e; omega)); replace hB := Go.Lib.hid (hB.out.grown hg hB.out.size (fun q hq => by cases hq; omega)); replace P := Go.Lib.hid hp; clear hg hp)))
              go_roundw
              case rel => exact ⟨k + 1, by omega, by rw [HDX.out]; exact P.out, Z.out, by rw [HPR.out]; exact V.out, GR.out, hB.out⟩
              case measure => have h9 := wmeas_eq P.out hw2; have h8 := HM.out; have h7 := HLE.out; omega
        · obtain rfl : k = N := by omega
          rw [HZ.out] at HWT0
          have HWT := Go.Lib.hid HWT0
          clear HWT0 hD1 hm hp0 hw0 q1
          obtain ⟨r0, hr0⟩ : ∃ r0, progR s L l k = r0 := ⟨_, rfl⟩
          rw [hr0] at V
          have HR0 := Go.Lib.hid hr0
          clear hr0
          generalize dryT s L k = T at *
          replace P := Go.Lib.hid P; replace Z := Go.Lib.hid Z; replace V := Go.Lib.hid V; replace GR := Go.Lib.hid GR; replace hB := Go.Lib.hid hB
          go_wp2_with (first
            | go_skip
            | ((with_reducible refine wlAt 27 rfl ?_); refine wpList_loadall rfl 34 (.tmp 1) rfl w.heap.size rfl 266 (T).at 34 _ Tryd.underlying34 rfl size_sheet P.out ?_)
            | (go_at_call 52; (refine (HWT.out _).mono ?_; rintro o w3 ⟨rfl, hb⟩; replace Z := Go.Lib.hid (row_next hb Z.out); replace V := Go.Lib.hid (row_next hb V.out); replace hB := Go.Lib.hid (below_next hB.out hb); clear hb))
            | ((with_reducible refine wlAt 62 rfl ?_); refine wpList_loadall rfl 37 (.tmp 3) rfl bb rfl 64 (rgf r0) 37 _ Tryd.underlying37 rfl size_rg V.out ?_)
            | ((with_reducible refine wlOp (.store 37 (.tmp 2) (.tmp 62)) rfl ?_); refine wpList_storeall rfl 37 (.tmp 2) (.tmp 62) rfl (w.heap.size + 1) rfl 64 (rgf fun _ => 0) (rgf r0) rfl 37 size_rg Z.out (fun i _ => rgf_one _ i) ?_; replace Z := Go.Lib.hid (row_set Z.out (vrow 64 (rgf r0))); replace hB := Go.Lib.hid (Below_setRow hB.out (show w.heap.size ≤ w.heap.size + 1 by omega) (vrow 64 (rgf r0)))))
          exact ret_row Tryd.results29 (w.heap.size + 1) 64 (rgf r0) 37 _ Tryd.underlying37 rfl size_rg rfl rfl Z.out ⟨by rw [HR0.out], hB.out⟩
end Go.Proofs.YtflmkhjleifbbaaDoor
namespace Go.Proofs.YtflmkhjleifbbaaDoor
open Go.RowKit
set_option maxRecDepth 100000
set_option linter.unusedVariables false
set_option linter.unusedSimpArgs false
theorem built_rg : Tryd.prog.built 37 [] = some (vrow 64 (rgf fun _ => 0)) := by kernel_rfl
theorem size_i16R : (Tryd.prog.info? 23).map (·.size) = some 1 := by kernel_rfl
/-- the rings of the first k places at the beginning -/
def rg0k (s : Sh) (k i : Nat) : Int := if i < k then ring0 s i else 0
theorem rg0k_0 (s : Sh) : vrow 64 (rgf (rg0k s 0)) = vrow 64 (rgf fun _ => 0) := vrow_ext _ _ _ fun i hi => by unfold rgf rg0k; rw [if_neg (by omega)]
theorem rg0k_64 (s : Sh) : vrow 64 (rgf (rg0k s 64)) = vrow 64 (rgf (ring0 s)) := vrow_ext _ _ _ fun i hi => by unfold rgf rg0k; rw [if_pos hi]
theorem rg0k_no (s : Sh) (x y : Nat) (hx : x < 8) (hy : y < 8) (h : freeB s x y = false) : vrow 64 (rgf (setR (rg0k s (8 * y + x)) (8 * y + x) (-1))) = vrow 64 (rgf (rg0k s (8 * y + x + 1))) := vrow_ext _ _ _ fun i hi => by
  unfold rgf rg0k setR
  dsimp only
  by_cases he : i = 8 * y + x
  · have e1 : i % 8 = x := by omega
    have e2 : i / 8 = y := by omega
    rw [if_pos he, if_pos (by omega)]
    unfold ring0
    rw [if_neg]
    rintro ⟨_, h1, h2⟩
    rw [show (i : Int) % 8 = (x : Int) by omega, show (i : Int) / 8 = (y : Int) by omega] at h1
    rw [e1, e2] at h2
    unfold freeB at h
    rw [Int.toNat_natCast, Int.toNat_natCast, h1, h2] at h
    cases h
  · rw [if_neg he]
    by_cases hl : i < 8 * y + x
    · rw [if_pos hl, if_pos (by omega)]
    · rw [if_neg hl, if_neg (by omega)]
theorem rg0k_yes (s : Sh) (x y : Nat) (hx : x < 8) (hy : y < 8) (h : freeB s x y = true) : vrow 64 (rgf (rg0k s (8 * y + x))) = vrow 64 (rgf (rg0k s (8 * y + x + 1))) := vrow_ext _ _ _ fun i hi => by
  unfold rgf rg0k
  by_cases he : i = 8 * y + x
  · have e1 : i % 8 = x := by omega
    have e2 : i / 8 = y := by omega
    rw [if_neg (by omega), if_pos (by omega)]
    unfold ring0
    unfold freeB at h
    rw [Int.toNat_natCast, Int.toNat_natCast, Bool.and_eq_true] at h
    rw [e1, e2, show (i : Int) % 8 = (x : Int) by omega, show (i : Int) / 8 = (y : Int) by omega, if_pos ⟨hi, h.1, by simpa using h.2⟩]
  · by_cases hl : i < 8 * y + x
    · rw [if_pos hl, if_pos (by omega)]
    · rw [if_neg hl, if_neg (by omega)]
set_option maxHeartbeats 16000000 in
theorem lrings_any (s : Sh) (a c N : Nat) (w : World) (ea : s.wide = a) (ec : s.high = c) (ha : 1 ≤ a ∧ a ≤ 8) (hc : 1 ≤ c ∧ c ≤ 8) (hf : s.fit) (ho : okI s = true) (hi : InkOk s) (hN : N ≤ 12800) (hz : wsum (dryT s (cellsL a c) N) 64 = 0) (hnz : ∀ j, j < N → wsum (dryT s (cellsL a c) j) 64 ≠ 0) : Calls Tryd.prog 22 #[.agg s.row] w fun o w' => o = .returned (.tuple #[.agg (vrow 64 (rgf (modR s (cellsL a c) N))), .int .i64 N]) ∧ Below w.heap.size w w' := by
  have HFR := Go.Lib.hid fun (b x y : Nat) (w0 : World) (hs : w0.heap[b]? = some (.cells (vrow 266 s.at) 34)) (hx : x < 8) (hy : y < 8) => (show Calls Tryd.prog 41 #[.pointer (some ⟨b, 0, none⟩), .agg #[.int .i8 (x : Int), .int .i8 (y : Int)]] w0 fun e w' => e = .returned (.bool (freeB s x y)) ∧ Below w0.heap.size w0 w' from free_any s b x y w0 hs hf (by omega) (by omega) ho)
  have HSp := Go.Lib.hid fun b w hs => spots_any s b a c w hs ea ec ha.2 hc.2
  have hr := rd_in ea ec ha.2 hc.2 ho
  have HG := Go.Lib.hid fun k => dt_gd hr hi hf k
  have HGO := Go.Lib.hid fun k => dt_gone hr (dt_gd hr hi hf k)
  have HDR := Go.Lib.hid fun (T : Sh) (hT : Gd s T) b w hs => ldry_any T b a c w hs (by rw [hT.wide, ea]) (by rw [hT.high, ec]) ha hc hT.ok hT.ink hT.fit
  have hn : (cellsL a c).length = a * c := cellsL_length a c
  have hac : 1 ≤ a * c ∧ a * c ≤ 64 := ⟨Nat.mul_le_mul ha.1 hc.1, Nat.mul_le_mul ha.2 hc.2⟩
  rw [← hn] at hac
  clear hn hr hf ho hi ea ec ha hc
  generalize cellsL a c = L at *
  have HZ := Go.Lib.hid hz; have HNZ := Go.Lib.hid hnz
  clear hz hnz
  have zr := zero_rg
  have zz := zero_sheet
  have hB : Hid (Below w.heap.size w (((w.alloc (.cells (vrow 266 s.at) 34)).alloc (.cells (vrow 64 (rgf fun _ => 0)) 37)).alloc (.cells (vrow 64 (rgf fun _ => 0)) 37))) := Go.Lib.hid ((((Below.refl w.heap.size w).alloc (by simp <;> omega) _).alloc (by simp <;> omega) _).alloc (by simp <;> omega) _)
  have P : Hid ((((w.alloc (.cells (vrow 266 s.at) 34)).alloc (.cells (vrow 64 (rgf fun _ => 0)) 37)).alloc (.cells (vrow 64 (rgf fun _ => 0)) 37)).heap[w.heap.size]? = some (.cells (vrow 266 s.at) 34)) := heap_past _ _ _ _ (by simp <;> omega) (heap_past _ _ _ _ (by simp <;> omega) (heap_at _ _ _ (by simp)))
  have Z : Hid ((((w.alloc (.cells (vrow 266 s.at) 34)).alloc (.cells (vrow 64 (rgf fun _ => 0)) 37)).alloc (.cells (vrow 64 (rgf fun _ => 0)) 37)).heap[w.heap.size + 1]? = some (.cells (vrow 64 (rgf fun _ => 0)) 37)) := heap_past _ _ _ _ (by simp <;> omega) (heap_at _ _ _ (by simp))
  have V : Hid ((((w.alloc (.cells (vrow 266 s.at) 34)).alloc (.cells (vrow 64 (rgf fun _ => 0)) 37)).alloc (.cells (vrow 64 (rgf fun _ => 0)) 37)).heap[w.heap.size + 1 + 1]? = some (.cells (vrow 64 (rgf fun _ => 0)) 37)) := heap_at _ _ _ (by simp)
  go_enter Tryd.func22, Tryd.ntmps22
  go_wp2_with (first
    | go_skip
    | ((with_reducible refine wlAt 12 rfl ?_); refine wpList_built rfl 37 [] rfl [] (by rfl) _ built_rg ?_)
    | ((with_reducible refine wlOp (.store 37 (.tmp 4) (.tmp 12)) rfl ?_); refine wpList_storeall rfl 37 (.tmp 4) (.tmp 12) rfl (w.heap.size + 1 + 1) rfl 64 (rgf fun _ => 0) (rgf fun _ => 0) rfl 37 size_rg V.out (fun i _ => rgf_one _ i) ?_; rw [setRow_self V.out]))
  generalize (((w.alloc (.cells (vrow 266 s.at) 34)).alloc (.cells (vrow 64 (rgf fun _ => 0)) 37)).alloc (.cells (vrow 64 (rgf fun _ => 0)) 37)) = W3 at P Z V hB ⊢
  obtain ⟨pb, hpb⟩ : ∃ z, w.heap.size + 1 + 1 = z := ⟨_, rfl⟩
  rw [hpb] at V ⊢
  have a1 := P.out; have a2 := Z.out; have a3 := V.out; have a4 := hB.out
  clear P Z V hB
  go_loopw [5, 6] (fun yv _ wr => ∃ y : Nat, y ≤ 8 ∧ yv = .int .i8 y ∧ wr.heap[w.heap.size]? = some (.cells (vrow 266 s.at) 34) ∧ wr.heap[w.heap.size + 1]? = some (.cells (vrow 64 (rgf fun _ => 0)) 37) ∧ wr.heap[pb]? = some (.cells (vrow 64 (rgf (rg0k s (8 * y)))) 37) ∧ Below w.heap.size w wr) (fun yv _ _ => 8 - (intOf yv).toNat)
  case atStart => exact ⟨0, by omega, rfl, a1, a2, by rw [rg0k_0]; exact a3, a4⟩
  case round =>
    clear a1 a2 a3 a4
    obtain ⟨y, hy, rfl, P, Z, V, hB⟩ := hrel
    by_cases hlty : y < 8
    · have hyI : (y : Int) < 8 := by omega
      have hy0 : (0 : Int) ≤ (y : Int) := by omega
      have hyd : decide ((y : Int) < 8) = true := by simpa using hyI
      replace P := Go.Lib.hid P; replace Z := Go.Lib.hid Z; replace V := Go.Lib.hid V; replace hB := Go.Lib.hid hB
      go_wp2
      have a1 := P.out; have a2 := Z.out; have a3 := V.out; have a4 := hB.out
      clear P Z V hB
      go_loopw [6] (fun xv wr => ∃ x : Nat, x ≤ 8 ∧ xv = .int .i8 x ∧ wr.heap[w.heap.size]? = some (.cells (vrow 266 s.at) 34) ∧ wr.heap[w.heap.size + 1]? = some (.cells (vrow 64 (rgf fun _ => 0)) 37) ∧ wr.heap[pb]? = some (.cells (vrow 64 (rgf (rg0k s (8 * y + x)))) 37) ∧ Below w.heap.size w wr) (fun xv _ => 8 - (intOf xv).toNat)
      case atStart => exact ⟨0, by omega, rfl, a1, a2, a3, a4⟩
      case round =>
        clear a1 a2 a3 a4
        obtain ⟨x, hx, rfl, P, Z, V, hB⟩ := hrel
        by_cases hltx : x < 8
        · have hxI : (x : Int) < 8 := by omega
          have hx0 : (0 : Int) ≤ (x : Int) := by omega
          have hxd : decide ((x : Int) < 8) = true := by simpa using hxI
          have HF1 := fun w0 hs => HFR.out w.heap.size x y w0 hs hltx hlty
          have hno := rg0k_no s x y hltx hlty
          have hyes := rg0k_yes s x y hltx hlty
          replace P := Go.Lib.hid P; replace Z := Go.Lib.hid Z; replace V := Go.Lib.hid V; replace hB := Go.Lib.hid hB
          cases hfr : freeB s x y
          · rw [hfr] at HF1
            have HF := Go.Lib.hid HF1; have HNO := Go.Lib.hid (hno hfr)
            clear HF1 hno hyes
            generalize rg0k s (8 * y + x) = r at *
            go_wp2_with (first
              | go_skip
              | (go_at_call 41; (refine (HF.out _ P.out).mono ?_); rintro o w1 ⟨rfl, hb⟩; replace P := Go.Lib.hid (row_next hb P.out); replace Z := Go.Lib.hid (row_next hb Z.out); replace V := Go.Lib.hid (row_next hb V.out); replace hB := Go.Lib.hid (below_next hB.out hb); clear hb)
              | ((with_reducible refine wlOp (.store 23 (.tmp 29) (.const (.int .i16 (-1)))) rfl ?_); refine wpList_store1 rfl 23 (.tmp 29) (.const (.int .i16 (-1))) rfl pb (y * 8 + x) rfl 64 (rgf r) (.int .i16 (-1)) rfl 37 size_i16R V.out (by omega) rfl ?_; rw [rgf_set, Nat.mul_comm y 8]; replace V := Go.Lib.hid (row_set V.out (vrow 64 (rgf (setR r (8 * y + x) (-1))))); replace P := Go.Lib.hid (row_set' (g := pb) (by omega) P.out (vrow 64 (rgf (setR r (8 * y + x) (-1))))); replace Z := Go.Lib.hid (row_set' (g := pb) (by omega) Z.out (vrow 64 (rgf (setR r (8 * y + x) (-1))))); replace hB := Go.Lib.hid (Below_setRow hB.out (show w.heap.size ≤ pb by omega) (vrow 64 (rgf (setR r (8 * y + x) (-1)))))))
            go_roundw
            case rel => exact ⟨x + 1, by omega, by go_num, P.out, Z.out, by rw [← Nat.add_assoc, ← HNO.out]; exact V.out, hB.out⟩
            case measure => simp [intOf]; omega
          · rw [hfr] at HF1
            have HF := Go.Lib.hid HF1; have HNO := Go.Lib.hid (hyes hfr)
            clear HF1 hno hyes
            generalize rg0k s (8 * y + x) = r at *
            go_wp2_with (first
              | go_skip
              | (go_at_call 41; (refine (HF.out _ P.out).mono ?_); rintro o w1 ⟨rfl, hb⟩; replace P := Go.Lib.hid (row_next hb P.out); replace Z := Go.Lib.hid (row_next hb Z.out); replace V := Go.Lib.hid (row_next hb V.out); replace hB := Go.Lib.hid (below_next hB.out hb); clear hb))
            go_roundw
            case rel => exact ⟨x + 1, by omega, by go_num, P.out, Z.out, by rw [← Nat.add_assoc, ← HNO.out]; exact V.out, hB.out⟩
            case measure => simp [intOf]; omega
        · obtain rfl : x = 8 := by omega
          have hxd : decide (((8 : Nat) : Int) < 8) = false := by simp
          go_wp2
          go_roundw
          case rel => exact ⟨y + 1, by omega, by go_num, P, Z, by rw [Nat.mul_succ]; exact V, hB⟩
          case measure => simp [intOf]; omega
    · obtain rfl : y = 8 := by omega
      have hyd : decide (((8 : Nat) : Int) < 8) = false := by simp
      rw [rg0k_64] at V
      clear HFR
      replace P := Go.Lib.hid P; replace Z := Go.Lib.hid Z; replace V := Go.Lib.hid V; replace hB := Go.Lib.hid hB
      go_wp2_with (first
        | go_skip
        | (go_at_call 31; (refine (HSp.out _ _ P.out).mono ?_; rintro e w1 ⟨v, rfl, hO, hb⟩; have qv := row_lt V.out; replace P := Go.Lib.hid (row_next hb P.out); replace Z := Go.Lib.hid (row_next hb Z.out); replace V := Go.Lib.hid (row_next hb V.out); replace hB := Go.Lib.hid (below_next hB.out hb))))
      obtain ⟨g, cap, f, rfl, hg, hcap, hO2, hf2⟩ := hO.row (by omega)
      have hgp : pb < g := by omega
      have a5 := hO2; have HF := Go.Lib.hid hf2
      clear hO hO2 hf2 hb hg qv HSp
      have a1 := P.out; have a2 := Z.out; have a3 := V.out; have a4 := hB.out
      clear P Z V hB
      generalize w1 = wo at a1 a2 a3 a4 a5 ⊢
      go_loopw [8, 9, 10, 11] (fun nv _ _ _ wr => ∃ k : Nat, k ≤ N ∧ nv = .int .i64 k ∧ wr.heap[w.heap.size]? = some (.cells (vrow 266 (dryT s L k).at) 34) ∧ wr.heap[w.heap.size + 1]? = some (.cells (vrow 64 (rgf fun _ => 0)) 37) ∧ wr.heap[pb]? = some (.cells (vrow 64 (rgf (modR s L k))) 37) ∧ wr.heap[g]? = some (.cells (vrow (cap * 2) f) 42) ∧ Below w.heap.size w wr) (fun nv _ _ _ _ => N - (intOf nv).toNat)
      case atStart => exact ⟨0, by omega, rfl, a1, a2, a3, a5, a4⟩
      case round =>
        clear a1 a2 a3 a4 a5
        obtain ⟨k, hk, rfl, P, Z, V, G, hB⟩ := hrel
        have g1 := HG.out k
        have hgo := HGO.out k
        have hD0 := fun b w hs => HDR.out (dryT s L k) g1 b w hs
        rw [← cellDry_like g1] at hD0
        have hnx : dryT s L (k + 1) = (L.foldl (cellDry s (dryT s L k)) (dryT s L k, 0)).1 := rfl
        have hmo : modR s L (k + 1) = outR (dryT s L k) (dryT s L (k + 1)) k L (modR s L k) := rfl
        replace P := Go.Lib.hid P; replace Z := Go.Lib.hid Z; replace V := Go.Lib.hid V; replace G := Go.Lib.hid G; replace hB := Go.Lib.hid hB
        by_cases hlt : k < N
        · have g2 := HG.out (k + 1)
          have hgn : (L.foldl (cellDry s (dryT s L k)) (dryT s L k, 0)).2 ≠ 0 := fun h => HNZ.out k hlt (hgo.1 h)
          clear hgo
          rw [hnx] at g2 hmo
          generalize L.foldl (cellDry s (dryT s L k)) (dryT s L k, 0) = TD at *
          obtain ⟨D, m⟩ := TD
          change Gd s D at g2
          change m ≠ 0 at hgn
          change modR s L (k + 1) = outR (dryT s L k) D k L (modR s L k) at hmo
          change dryT s L (k + 1) = D at hnx
          have HNX := Go.Lib.hid hnx; have HMO := Go.Lib.hid hmo
          clear hnx hmo
          generalize dryT s L k = T at *
          generalize modR s L k = r0 at *
          have hz1 : (m == 0) = false := by simpa using hgn
          have hz2 : decide (m = 0) = false := by simpa using hgn
          have HD := Go.Lib.hid hD0
          have fT := g1.fit; have fD := g2.fit
          have wpT := Go.Lib.hid fun i hi => wet_pos g1 i hi
          have wpD := Go.Lib.hid fun i hi => wet_pos g2 i hi
          clear hD0 hgn g1 g2
          go_wp2_with (first
            | go_skip
            | (go_at_call 42; (refine (HD.out _ _ P.out).mono ?_; rintro e w3 ⟨rfl, hb⟩; replace G := Go.Lib.hid (row_next hb G.out); replace P := Go.Lib.hid (row_next hb P.out); replace Z := Go.Lib.hid (row_next hb Z.out); replace V := Go.Lib.hid (row_next hb V.out); replace hB := Go.Lib.hid (below_next hB.out hb); clear hb))
            | ((with_reducible refine wlOp (.store 34 (.tmp 9) (.tmp 35)) rfl ?_); refine wpList_storeall rfl 34 (.tmp 9) (.tmp 35) rfl _ rfl 266 Sh.zero.at (D).at rfl 34 size_sheet (heap_at _ _ _ rfl) (fun i _ => Sh.one _ i) ?_; rw [setRow_at _ _ _ _ _ rfl]; have X := Go.Lib.hid (heap_at w3 (.cells (vrow 266 (D).at) 34) _ rfl); have nP := row_lt P.out; replace P := Go.Lib.hid (heap_past _ (.cells (vrow 266 (D).at) 34) _ _ nP P.out); have nZ := row_lt Z.out; replace Z := Go.Lib.hid (heap_past _ (.cells (vrow 266 (D).at) 34) _ _ nZ Z.out); have nV := row_lt V.out; replace V := Go.Lib.hid (heap_past _ (.cells (vrow 266 (D).at) 34) _ _ nV V.out); have nG := row_lt G.out; replace G := Go.Lib.hid (heap_past _ (.cells (vrow 266 (D).at) 34) _ _ nG G.out); replace hB := Go.Lib.hid (hB.out.alloc hB.out.size (.cells (vrow 266 (D).at) 34)); generalize w3.heap.size = nc at X nP nZ nV nG ⊢; generalize w3.alloc _ = w3' at P Z V G X hB ⊢))
          have a1 := P.out; have a2 := Z.out; have a3 := V.out; have a4 := hB.out; have a5 := G.out; have a6 := X.out
          clear P Z V hB G X
          go_loopw [11] (fun iv wr => ∃ i : Nat, i ≤ L.length ∧ iv = .int .i64 i ∧ wr.heap[w.heap.size]? = some (.cells (vrow 266 T.at) 34) ∧ wr.heap[w.heap.size + 1]? = some (.cells (vrow 64 (rgf fun _ => 0)) 37) ∧ wr.heap[pb]? = some (.cells (vrow 64 (rgf (outR T D k (L.take i) r0))) 37) ∧ wr.heap[g]? = some (.cells (vrow (cap * 2) f) 42) ∧ wr.heap[nc]? = some (.cells (vrow 266 D.at) 34) ∧ Below w.heap.size w wr) (fun iv _ => L.length - (intOf iv).toNat)
          case atStart => exact ⟨0, by omega, rfl, a1, a2, a3, a5, a6, a4⟩
          case round =>
            clear a1 a2 a3 a4 a5 a6
            obtain ⟨i, hi, rfl, P, Z, V, G, X, hB⟩ := hrel
            by_cases hil : i < L.length
            · have hst : outR T D k (L.take (i + 1)) r0 = if 0 < T.wet (pix (L[i]'hil)) ∧ D.wet (pix (L[i]'hil)) = 0 then setR (outR T D k (L.take i) r0) (pix (L[i]'hil)) ((k : Int) + 1) else outR T D k (L.take i) r0 := by
                rw [List.take_succ_eq_append_getElem hil, outR_app]
              have HFk := HF.out i hil
              have HR0 := row_spot f (i * 2) (L[i]'hil) HFk
              obtain ⟨⟨⟨x, y⟩, hx, hy⟩, hp⟩ : ∃ p, L[i]'hil = p := ⟨_, rfl⟩
              rw [hp] at hst HR0 HFk
              clear hp
              replace hx : x < 8 := hx
              replace hy : y < 8 := hy
              have HR : Hid (vrow 2 (fun q => f (i * 2 + q)) = #[.int .i8 x, .int .i8 y]) := HR0
              have HX := Go.Lib.hid (show f (i * 2) = .int .i8 (x : Int) from HFk.1)
              have HY := Go.Lib.hid (show f (i * 2 + 1) = .int .i8 (y : Int) from HFk.2)
              clear HR0 HFk
              have HWA0 := fun w0 (ht : w0.heap[w.heap.size]? = some (.cells (vrow 266 T.at) 34)) => l02Wet_any T w.heap.size x y w0 ht fT hx hy
              have HWB0 := fun w0 (ht : w0.heap[nc]? = some (.cells (vrow 266 D.at) 34)) => l02Wet_any D nc x y w0 ht fD hx hy
              rw [show wetF T x y = T.wet (8 * y + x) from rfl] at HWA0
              rw [show wetF D x y = D.wet (8 * y + x) from rfl] at HWB0
              have b1 := wpT.out (8 * y + x) (by omega)
              have b2 := wpD.out (8 * y + x) (by omega)
              change outR T D k (L.take (i + 1)) r0 = if 0 < T.wet (8 * y + x) ∧ D.wet (8 * y + x) = 0 then setR (outR T D k (L.take i) r0) (8 * y + x) ((k : Int) + 1) else outR T D k (L.take i) r0 at hst
              generalize outR T D k (L.take i) r0 = r at *
              generalize T.wet (8 * y + x) = wa at *
              generalize D.wet (8 * y + x) = wb at *
              have HWA := Go.Lib.hid HWA0; have HWB := Go.Lib.hid HWB0
              clear HWA0 HWB0
              have hiI : (i : Int) < (L.length : Int) := by omega
              have hi0 : (0 : Int) ≤ (i : Int) := by omega
              have hid : decide ((i : Int) < (L.length : Int)) = true := by simpa using hiI
              have hxI : (x : Int) < 8 := by omega
              have hx0 : (0 : Int) ≤ (x : Int) := by omega
              have hyI : (y : Int) < 8 := by omega
              have hy0 : (0 : Int) ≤ (y : Int) := by omega
              replace P := Go.Lib.hid P; replace Z := Go.Lib.hid Z; replace V := Go.Lib.hid V; replace G := Go.Lib.hid G; replace X := Go.Lib.hid X; replace hB := Go.Lib.hid hB
              have nc1 := row_lt X.out
              have F0 : Hid True := Go.Lib.hid trivial
              by_cases hwa : 0 < wa
              · have hd1 : decide (0 < wa) = true := by simpa using hwa
                by_cases hwb : wb = 0
                · rw [if_pos ⟨hwa, hwb⟩] at hst
                  have HST := Go.Lib.hid hst
                  clear hst
                  subst hwb
                  go_wp2_with (first
                    | go_skip
                    | ((with_reducible refine wlAt 50 rfl ?_); refine wpList_loadmid rfl 42 (.tmp 49) rfl g (i * 2) rfl (cap * 2) 2 f 42 _ Tryd.underlying42 rfl size_spot G.out (by omega) ?_; rw [HR.out])
                    | ((with_reducible refine wlAt 57 rfl ?_); refine wpList_ldm 42 (.tmp 56) rfl (by first | exact want_n rfl | exact want_g _ _ _ rfl rfl rfl) g (i * 2) rfl (cap * 2) 2 f _ rw_spot size_spot G.out (by omega) ?_; rw [HR.out])
                    | (go_at_call 43; (have q0 := F0); clear F0 q0; (refine (HWA.out _ P.out).mono ?_); rintro e w4 ⟨rfl, hb⟩; replace G := Go.Lib.hid (row_next hb G.out); replace X := Go.Lib.hid (row_next hb X.out); replace P := Go.Lib.hid (row_next hb P.out); replace Z := Go.Lib.hid (row_next hb Z.out); replace V := Go.Lib.hid (row_next hb V.out); replace hB := Go.Lib.hid (below_next hB.out hb); clear hb)
                    | (go_at_call 43; (refine (HWB.out _ X.out).mono ?_); rintro e w5 ⟨rfl, hb⟩; replace G := Go.Lib.hid (row_next hb G.out); replace X := Go.Lib.hid (row_next hb X.out); replace P := Go.Lib.hid (row_next hb P.out); replace Z := Go.Lib.hid (row_next hb Z.out); replace V := Go.Lib.hid (row_next hb V.out); replace hB := Go.Lib.hid (below_next hB.out hb); clear hb))
                  refine wp_region_still_tail 15 (by kernel_rfl) (by kernel_rfl) ?_
                  simp only [List.take_succ_cons, List.take_zero, List.drop_succ_cons, List.drop_zero, World.drew_eq]
                  repeat (first
                    | (refine wpStill_load1 rfl 22 (.tmp 64) rfl g (i * 2 + 1) rfl (cap * 2) f _ _ Tryd.underlying22 rfl G.out (by omega) ?_; rw [HY.out]; simp only [Act.put, List.setIfInBounds_toArray, List.set_cons_succ, List.set_cons_zero])
                    | (refine wpStill_load1 rfl 22 (.tmp 69) rfl g (i * 2) rfl (cap * 2) f _ _ Tryd.underlying22 rfl G.out (by omega) ?_; rw [HX.out]; simp only [Act.put, List.setIfInBounds_toArray, List.set_cons_succ, List.set_cons_zero])
                    | still_step
                    | (refine wpStill_step (fun K hK => ?_); go_simp; simp only [hxI, hyI, hiI, if_true]; go_simp; refine hK _ ?_; clear hK K))
                  refine wpStill_nil ?_
                  refine wpList_store1 rfl 23 (.tmp 75) (.tmp 73) rfl pb (y * 8 + x) rfl 64 (rgf r) (.int .i16 ((k : Int) + 1)) (by first | rfl | (show Value.int .i16 (IntKind.i16.wrap (wrap64 ((k : Int) + 1))) = _; rw [IntWalk.wrap64_in ((k : Int) + 1) (by omega), IntWalk.i16_in ((k : Int) + 1) (by omega)]) | (show Value.int .i16 (IntKind.i16.wrap (IntKind.i64.wrap ((k : Int) + 1))) = _; rw [IntWalk.i64_in ((k : Int) + 1) (by omega), IntWalk.i16_in ((k : Int) + 1) (by omega)])) 37 size_i16R V.out (by omega) rfl ?_
                  rw [rgf_set, Nat.mul_comm y 8]
                  have P2 := row_set' (w := w5.drew) (g := pb) (by omega) P.out (vrow 64 (rgf (setR r (8 * y + x) ((k : Int) + 1))))
                  have Z2 := row_set' (w := w5.drew) (g := pb) (by omega) Z.out (vrow 64 (rgf (setR r (8 * y + x) ((k : Int) + 1))))
                  have G2 := row_set' (w := w5.drew) (g := pb) (by omega) G.out (vrow 64 (rgf (setR r (8 * y + x) ((k : Int) + 1))))
                  have X2 := row_set' (w := w5.drew) (g := pb) (by omega) X.out (vrow 64 (rgf (setR r (8 * y + x) ((k : Int) + 1))))
                  have V2 := row_set (w := w5.drew) V.out (vrow 64 (rgf (setR r (8 * y + x) ((k : Int) + 1))))
                  have hB2 := Below_setRow hB.out.drew (show w.heap.size ≤ pb by omega) (vrow 64 (rgf (setR r (8 * y + x) ((k : Int) + 1))))
                  clear P Z V G X hB
                  generalize World.setRow w5.drew _ _ = w9 at P2 Z2 V2 G2 X2 hB2 ⊢
                  go_wp2
                  go_roundw
                  case rel => exact ⟨i + 1, by omega, by go_num, P2, Z2, by rw [HST.out]; exact V2, G2, X2, hB2⟩
                  case measure => simp [intOf]; omega
                · have hd2 : (wb == 0) = false := by simpa using hwb
                  have hd3 : decide (wb = 0) = false := by simpa using hwb
                  rw [if_neg (fun h => hwb h.2)] at hst
                  have HST := Go.Lib.hid hst
                  clear hst hwb
                  go_wp2_with (first
                    | go_skip
                    | ((with_reducible refine wlAt 50 rfl ?_); refine wpList_loadmid rfl 42 (.tmp 49) rfl g (i * 2) rfl (cap * 2) 2 f 42 _ Tryd.underlying42 rfl size_spot G.out (by omega) ?_; rw [HR.out])
                    | ((with_reducible refine wlAt 57 rfl ?_); refine wpList_ldm 42 (.tmp 56) rfl (by first | exact want_n rfl | exact want_g _ _ _ rfl rfl rfl) g (i * 2) rfl (cap * 2) 2 f _ rw_spot size_spot G.out (by omega) ?_; rw [HR.out])
                    | (go_at_call 43; (have q0 := F0); clear F0 q0; (refine (HWA.out _ P.out).mono ?_); rintro e w4 ⟨rfl, hb⟩; replace G := Go.Lib.hid (row_next hb G.out); replace X := Go.Lib.hid (row_next hb X.out); replace P := Go.Lib.hid (row_next hb P.out); replace Z := Go.Lib.hid (row_next hb Z.out); replace V := Go.Lib.hid (row_next hb V.out); replace hB := Go.Lib.hid (below_next hB.out hb); clear hb)
                    | (go_at_call 43; (refine (HWB.out _ X.out).mono ?_); rintro e w5 ⟨rfl, hb⟩; replace G := Go.Lib.hid (row_next hb G.out); replace X := Go.Lib.hid (row_next hb X.out); replace P := Go.Lib.hid (row_next hb P.out); replace Z := Go.Lib.hid (row_next hb Z.out); replace V := Go.Lib.hid (row_next hb V.out); replace hB := Go.Lib.hid (below_next hB.out hb); clear hb))
                  go_roundw
                  case rel => exact ⟨i + 1, by omega, by go_num, P.out, Z.out, by rw [HST.out]; exact V.out, G.out, X.out, hB.out⟩
                  case measure => simp [intOf]; omega
              · have hd1 : decide (0 < wa) = false := by simpa using hwa
                rw [if_neg (fun h => hwa h.1)] at hst
                have HST := Go.Lib.hid hst
                clear hst hwa
                go_wp2_with (first
                  | go_skip
                  | ((with_reducible refine wlAt 50 rfl ?_); refine wpList_loadmid rfl 42 (.tmp 49) rfl g (i * 2) rfl (cap * 2) 2 f 42 _ Tryd.underlying42 rfl size_spot G.out (by omega) ?_; rw [HR.out])
                  | ((with_reducible refine wlAt 57 rfl ?_); refine wpList_ldm 42 (.tmp 56) rfl (by first | exact want_n rfl | exact want_g _ _ _ rfl rfl rfl) g (i * 2) rfl (cap * 2) 2 f _ rw_spot size_spot G.out (by omega) ?_; rw [HR.out])
                  | (go_at_call 43; (have q0 := F0); clear F0 q0; (refine (HWA.out _ P.out).mono ?_); rintro e w4 ⟨rfl, hb⟩; replace G := Go.Lib.hid (row_next hb G.out); replace X := Go.Lib.hid (row_next hb X.out); replace P := Go.Lib.hid (row_next hb P.out); replace Z := Go.Lib.hid (row_next hb Z.out); replace V := Go.Lib.hid (row_next hb V.out); replace hB := Go.Lib.hid (below_next hB.out hb); clear hb)
                  | (go_at_call 43; (refine (HWB.out _ X.out).mono ?_); rintro e w5 ⟨rfl, hb⟩; replace G := Go.Lib.hid (row_next hb G.out); replace X := Go.Lib.hid (row_next hb X.out); replace P := Go.Lib.hid (row_next hb P.out); replace Z := Go.Lib.hid (row_next hb Z.out); replace V := Go.Lib.hid (row_next hb V.out); replace hB := Go.Lib.hid (below_next hB.out hb); clear hb))
                go_roundw
                case rel => exact ⟨i + 1, by omega, by go_num, P.out, Z.out, by rw [HST.out]; exact V.out, G.out, X.out, hB.out⟩
                case measure => simp [intOf]; omega
            · obtain rfl : i = L.length := by omega
              have hid : decide ((L.length : Int) < (L.length : Int)) = false := by simp
              rw [List.take_length] at V
              replace P := Go.Lib.hid P; replace Z := Go.Lib.hid Z; replace V := Go.Lib.hid V; replace G := Go.Lib.hid G; replace X := Go.Lib.hid X; replace hB := Go.Lib.hid hB
              go_wp2_with (first
                | go_skip
                | ((with_reducible refine wlAt 76 rfl ?_); refine wpList_loadall rfl 34 (.tmp 9) rfl nc rfl 266 D.at 34 _ Tryd.underlying34 rfl size_sheet X.out ?_)
                | ((with_reducible refine wlOp (.store 34 (.tmp 1) (.tmp 76)) rfl ?_); refine wpList_storeall rfl 34 (.tmp 1) (.tmp 76) rfl w.heap.size rfl 266 T.at D.at rfl 34 size_sheet P.out (fun i _ => Sh.one _ i) ?_; replace V := Go.Lib.hid (row_set' (g := w.heap.size) (by omega) V.out (vrow 266 D.at)); replace G := Go.Lib.hid (row_set' (g := w.heap.size) (by omega) G.out (vrow 266 D.at)); replace Z := Go.Lib.hid (row_set' (g := w.heap.size) (by omega) Z.out (vrow 266 D.at)); replace P := Go.Lib.hid (row_set P.out (vrow 266 D.at)); replace hB := Go.Lib.hid (Below_setRow hB.out (Nat.le_refl _) (vrow 266 D.at))))
              go_roundw
              case rel => exact ⟨k + 1, by omega, by go_num, by rw [HNX.out]; exact P.out, Z.out, by rw [HMO.out]; exact V.out, G.out, hB.out⟩
              case measure => simp [intOf]; omega
        · obtain rfl : k = N := by omega
          have hg0 := hgo.2 HZ.out
          replace V := V.out
          clear hgo hnx hmo HNZ g1
          generalize L.foldl (cellDry s (dryT s L k)) (dryT s L k, 0) = TD at *
          obtain ⟨D, m⟩ := TD
          change m = 0 at hg0
          subst hg0
          obtain ⟨r0, hr0⟩ : ∃ r0, modR s L k = r0 := ⟨_, rfl⟩
          rw [hr0] at V
          replace V := Go.Lib.hid V
          have HR0 := Go.Lib.hid hr0
          clear hr0
          have HD := Go.Lib.hid hD0
          clear hD0 HZ
          generalize dryT s L k = T at *
          go_wp2_with (first
            | go_skip
            | (go_at_call 42; (refine (HD.out _ _ P.out).mono ?_; rintro e w3 ⟨rfl, hb⟩; replace G := Go.Lib.hid (row_next hb G.out); replace P := Go.Lib.hid (row_next hb P.out); replace Z := Go.Lib.hid (row_next hb Z.out); replace V := Go.Lib.hid (row_next hb V.out); replace hB := Go.Lib.hid (below_next hB.out hb); clear hb))
            | ((with_reducible refine wlOp (.store 34 (.tmp 9) (.tmp 35)) rfl ?_); refine wpList_storeall rfl 34 (.tmp 9) (.tmp 35) rfl _ rfl 266 Sh.zero.at (D).at rfl 34 size_sheet (heap_at _ _ _ rfl) (fun i _ => Sh.one _ i) ?_; rw [setRow_at _ _ _ _ _ rfl]; have nZ := row_lt Z.out; replace Z := Go.Lib.hid (heap_past _ (.cells (vrow 266 (D).at) 34) _ _ nZ Z.out); have nV := row_lt V.out; replace V := Go.Lib.hid (heap_past _ (.cells (vrow 266 (D).at) 34) _ _ nV V.out); replace hB := Go.Lib.hid (hB.out.alloc hB.out.size (.cells (vrow 266 (D).at) 34)); generalize w3.heap.size = nc at nZ nV ⊢; generalize w3.alloc _ = w3' at Z V hB ⊢; clear P G)
            | ((with_reducible refine wlAt 39 rfl ?_); refine wpList_loadall rfl 37 (.tmp 4) rfl pb rfl 64 (rgf r0) 37 _ Tryd.underlying37 rfl size_rg V.out ?_)
            | ((with_reducible refine wlOp (.store 37 (.tmp 2) (.tmp 39)) rfl ?_); refine wpList_storeall rfl 37 (.tmp 2) (.tmp 39) rfl (w.heap.size + 1) rfl 64 (rgf fun _ => 0) (rgf r0) rfl 37 size_rg Z.out (fun i _ => rgf_one _ i) ?_; replace Z := Go.Lib.hid (row_set Z.out (vrow 64 (rgf r0))); replace hB := Go.Lib.hid (Below_setRow hB.out (show w.heap.size ≤ w.heap.size + 1 by omega) (vrow 64 (rgf r0)))))
          exact ret_row2 Tryd.results22 (w.heap.size + 1) 64 (rgf r0) 37 _ Tryd.underlying37 rfl size_rg (.int .i64 k) rfl rfl rfl Z.out ⟨by rw [HR0.out], hB.out⟩
end Go.Proofs.YtflmkhjleifbbaaDoor
