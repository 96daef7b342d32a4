import Derived.Deep.RegionHeld3
import Derived.Test.YtmcpaangofdmpaaDoorNbr
import Derived.Test.YtmcpaangofdmpaaDoorChos
import Derived.Test.YtmcpaangofdmpaaDoorQT
namespace Go.Proofs.YtmcpaangofdmpaaDoor
open Go.RowKit
set_option maxRecDepth 100000
set_option linter.unusedVariables false
set_option linter.unusedSimpArgs false
theorem at_wetE (s : Sh) (o j : Nat) (ho : o = 2 + j) (hj : j < 64) : s.at o = .int .i16 (s.wet j) := by
  unfold Sh.at; rw [if_neg (by omega), if_neg (by omega), if_pos (by omega), ho, show 2 + j - 2 = j by omega]
/-- a cell is dry -/
def dryB (s : Sh) (q : Sp8) : Bool := s.wet (8 * q.1.2 + q.1.1) == 0
/-- a cell lies at the edge of a puddle -/
def edB (s : Sh) (x y : Nat) : Bool := !(s.wet (8 * y + x) == 0) && (nbs s x y 4).any (dryB s)
set_option maxHeartbeats 2000000 in
theorem ed1_any (s : Sh) (b1 x y : Nat) (w : World) (h1 : w.heap[b1]? = some (.cells (vrow 266 s.at) 34)) (hx : x < 8) (hy : y < 8) : Calls Tryd.prog 87 #[.agg (vrow 2 (spAt x y)), .pointer (some ⟨b1, 0, none⟩)] w fun e w' => e = .returned (.bool (s.wet (8 * y + x) == 0)) ∧ Below w.heap.size w w' := by
  obtain ⟨v, hv⟩ : ∃ v, s.wet (8 * y + x) = v := ⟨_, rfl⟩
  have EV := Go.Lib.hid hv
  rw [hv]
  clear hv
  have hxI : (x : Int) < 8 := by omega
  have hyI : (y : Int) < 8 := by omega
  have X : Hid ((w.alloc (.cells (vrow 2 (spAt x y)) 111)).heap[w.heap.size]? = some (.cells (vrow 2 (spAt x y)) 111)) := (heap_at _ _ _ (by simp))
  have hB : Hid (Below w.heap.size w (w.alloc (.cells (vrow 2 (spAt x y)) 111))) := Go.Lib.hid ((Below.refl w.heap.size w).alloc (by simp <;> omega) _)
  have P : Hid ((w.alloc (.cells (vrow 2 (spAt x y)) 111)).heap[b1]? = some (.cells (vrow 266 s.at) 34)) := heap_past _ _ _ _ (row_lt h1) h1
  clear h1
  go_enter Tryd.func87, Tryd.ntmps87
  go_wp2
  refine region_at (by kernel_rfl) (by kernel_rfl) ?_
  intro W hW
  rw [hW] at hB X P
  clear hW
  have X' := Go.Lib.hid (cls_row' X.out); have P' := Go.Lib.hid (cls_row' P.out)
  (repeat (first
    | go_big_quiet_skip
    | (refine wpQuiet_load1 22 _ rfl (by first | exact want_n rfl | exact want_g _ _ _ rfl rfl rfl) w.heap.size _ rfl 2 (spAt x y) _ rw_i8 X'.out (by omega) ?_; (first | rw [spAt_0] | rw [spAt_1]); simp only [Act.put, List.setIfInBounds_toArray, List.set_cons_succ, List.set_cons_zero])
    | (refine wpQuiet_load1 23 _ rfl (by first | exact want_n rfl | exact want_g _ _ _ rfl rfl rfl) b1 _ rfl 266 s.at _ rw_i16 P'.out (by omega) ?_; rw [at_wetE s _ (8 * y + x) (by omega) (by omega), EV.out]; simp only [Act.put, List.setIfInBounds_toArray, List.set_cons_succ, List.set_cons_zero])
    | go_big_quiet_step (fail)))
  refine wpQuiet_nil ?_
  intro W2 hb
  replace hB := Go.Lib.hid (below_next hB.out hb)
  clear hb X' P'
  go_wp2
  go_ret
  exact ⟨rfl, hB.out⟩
theorem own_sl {w : World} {base : Nat} {v : Value} (h : w.ownsRow base 111 2 v 0 (vals [])) : ∃ ao cp, v = .slice ao 0 cp := by
  rcases h.2 with ⟨rfl, _⟩ | ⟨g, cap, cur, rfl, _⟩
  · exact ⟨_, _, rfl⟩
  · exact ⟨_, _, rfl⟩
theorem any_take {f : Sp8 → Bool} {l : List Sp8} {k : Nat} (hk : k < l.length) (h : (l.take k).any f = false) : (l.take (k + 1)).any f = f (l[k]'hk) := by
  rw [List.take_succ_eq_append_getElem hk, List.any_append, h]; simp
theorem any_some {f : Sp8 → Bool} {l : List Sp8} {k : Nat} (hk : k < l.length) (h : f (l[k]'hk) = true) : l.any f = true := List.any_eq_true.2 ⟨_, List.getElem_mem hk, h⟩
set_option maxRecDepth 100000 in
set_option maxHeartbeats 4000000 in
theorem ixE_any (s : Sh) (b1 : Nat) (l : List Sp8) (v : Value) (B : Nat) (w : World) (hl : l.length ≤ 64) (h1 : w.heap[b1]? = some (.cells (vrow 266 s.at) 34)) (hO : Owns w B v l) : Calls Tryd.prog 129 #[v, .func (.func 87) #[] #[.pointer (some ⟨b1, 0, none⟩)]] w fun e w' => (∃ r : Int, e = .returned (.int .i64 r) ∧ decide (0 ≤ r) = l.any (dryB s)) ∧ Below w.heap.size w w' := by
  have P := Go.Lib.hid h1; have hB := Go.Lib.hid (Below.refl w.heap.size w)
  clear h1
  rcases Nat.eq_zero_or_pos l.length with h0 | hp
  · obtain rfl := List.length_eq_zero_iff.1 h0
    obtain ⟨ao, cp, rfl⟩ : ∃ ao cp, v = .slice ao 0 cp := own_sl hO.own
    go_enter Tryd.func129, Tryd.ntmps129
    go_wp2
    have P0 := P.out; have B0 := hB.out
    go_loopw [8] (fun iv wr => iv = .int .i64 0 ∧ Below w.heap.size w wr) (fun _ _ => 0)
    case atStart => exact ⟨rfl, B0⟩
    case round =>
      obtain ⟨rfl, hB2⟩ := hrel
      go_wp2
      go_ret
      exact ⟨⟨-1, rfl, by simp⟩, hB2⟩
  · obtain ⟨g, cap, f, rfl, hg, hcap, hrow, hf2⟩ := hO.row hp
    have Gr := Go.Lib.hid hrow
    clear hrow hO
    go_enter Tryd.func129, Tryd.ntmps129
    go_wp2
    have P0 := P.out; have G0 := Gr.out; have B0 := hB.out
    clear P Gr hB
    go_loopw [8] (fun iv wr => ∃ k : Nat, k ≤ l.length ∧ iv = .int .i64 k ∧ (l.take k).any (dryB s) = false ∧ wr.heap[b1]? = some (.cells (vrow 266 s.at) 34) ∧ wr.heap[g]? = some (.cells (vrow (cap * 2) f) 111) ∧ Below w.heap.size w wr) (fun iv _ => l.length - (intOf iv).toNat)
    case atStart => exact ⟨0, by omega, rfl, by simp, P0, G0, B0⟩
    case round =>
      clear P0 G0 B0
      obtain ⟨k, hk, rfl, hno, P, Gr, hB⟩ := hrel
      by_cases hlt : k < l.length
      · have hf := hf2 k hlt
        have hst := any_take hlt hno
        have hso := any_some (f := dryB s) hlt
        obtain ⟨⟨⟨x, y⟩, hx, hy⟩, hq⟩ : ∃ q, l[k]'hlt = q := ⟨_, rfl⟩
        rw [hq] at hf hst hso
        replace hx : x < 8 := hx
        replace hy : y < 8 := hy
        have HR := Go.Lib.hid (show vrow 2 (fun j => f (k * 2 + j)) = vrow 2 (spAt x y) from vrow_ext _ _ _ fun j hj => by
          have : j = 0 ∨ j = 1 := by omega
          rcases this with rfl | rfl
          · exact hf.1
          · exact hf.2)
        have hdr : dryB s ⟨(x, y), hx, hy⟩ = (s.wet (8 * y + x) == 0) := rfl
        rw [hdr] at hst hso
        have HC := Go.Lib.hid fun W h => ed1_any s b1 x y W h hx hy
        clear hq hf hdr
        generalize (s.wet (8 * y + x) == 0) = bb at *
        replace P := Go.Lib.hid P; replace Gr := Go.Lib.hid Gr; replace hB := Go.Lib.hid hB
        have hkI : (k : Int) < (l.length : Int) := by omega
        have hk0 : (0 : Int) ≤ (k : Int) := by omega
        have hkd : decide ((k : Int) < (l.length : Int)) = true := by simpa using hkI
        cases bb
        · go_wp2_with (first
            | go_skip
            | ((with_reducible refine wlAt 15 rfl ?_); refine wpList_loadmid rfl 111 (.tmp 14) rfl g (k * 2) rfl (cap * 2) 2 f 111 _ Tryd.underlying111 rfl size_spot Gr.out (by omega) ?_; rw [HR.out])
            | (go_at_call 87; (refine (HC.out _ P.out).mono ?_); rintro o w1 ⟨rfl, hb⟩; replace P := Go.Lib.hid (row_next hb P.out); replace Gr := Go.Lib.hid (row_next hb Gr.out); replace hB := Go.Lib.hid (below_next hB.out hb); clear hb))
          go_roundw
          case rel => exact ⟨k + 1, by omega, by go_num, hst, P.out, Gr.out, hB.out⟩
          case measure => simp [intOf]; omega
        · go_wp2_with (first
            | go_skip
            | ((with_reducible refine wlAt 15 rfl ?_); refine wpList_loadmid rfl 111 (.tmp 14) rfl g (k * 2) rfl (cap * 2) 2 f 111 _ Tryd.underlying111 rfl size_spot Gr.out (by omega) ?_; rw [HR.out])
            | (go_at_call 87; (refine (HC.out _ P.out).mono ?_); rintro o w1 ⟨rfl, hb⟩; replace P := Go.Lib.hid (row_next hb P.out); replace Gr := Go.Lib.hid (row_next hb Gr.out); replace hB := Go.Lib.hid (below_next hB.out hb); clear hb))
          go_ret
          exact ⟨⟨(k : Int), rfl, by rw [(by first | exact hso rfl | exact hso trivial : l.any (dryB s) = true)]; simp⟩, hB.out⟩
      · obtain rfl : k = l.length := by omega
        have hkd : decide ((l.length : Int) < (l.length : Int)) = false := by simp
        rw [List.take_length] at hno
        replace hB := Go.Lib.hid hB
        go_wp2
        go_ret
        exact ⟨⟨-1, rfl, by rw [hno]; rfl⟩, hB.out⟩
theorem coE_any (s : Sh) (b1 : Nat) (l : List Sp8) (v : Value) (B : Nat) (w : World) (hl : l.length ≤ 64) (h1 : w.heap[b1]? = some (.cells (vrow 266 s.at) 34)) (hO : Owns w B v l) : Calls Tryd.prog 90 #[v, .func (.func 87) #[] #[.pointer (some ⟨b1, 0, none⟩)]] w fun e w' => e = .returned (.bool (l.any (dryB s))) ∧ Below w.heap.size w w' := by
  have HI := Go.Lib.hid (ixE_any s b1 l v B w hl h1 hO)
  have hB := Go.Lib.hid (Below.refl w.heap.size w)
  clear h1 hO
  go_enter Tryd.func90, Tryd.ntmps90
  go_wp2_with (first
    | go_skip
    | (go_at_call 129; (refine HI.out.mono ?_); rintro o w1 ⟨⟨r, rfl, hr⟩, hb⟩; replace hB := Go.Lib.hid (below_next hB.out hb); clear hb))
  go_ret
  exact ⟨by rw [← hr]; rfl, hB.out⟩
theorem ret_tmpE {P : Program} {fn : Func} {R : Ending → World → Prop} {a : Act} {w : World} {u : Tmp} (hr : fn.results = #[.tmp u]) {v : Value} (hv : a.tmps.getD u undef = v) (hdf : a.defers = []) (h : R (.returned v) w) : bodyPost P fn R .ret a w :=
  bodyPost_ret (by rw [results_tmp hr, hv]) hdf h
theorem rw_funcB : (Tryd.prog.underlying 116).map (·.isRow) = some false := by kernel_rfl
theorem size_funcB : (Tryd.prog.info? 116).map (·.size) = some 1 := by kernel_rfl
set_option maxRecDepth 100000 in
set_option maxHeartbeats 8000000 in
theorem ed2_any (s : Sh) (b1 b5 x y : Nat) (w : World) (h5 : w.heap[b5]? = some (.cells (vrow 1 fun _ => .func (.func 87) #[] #[.pointer (some ⟨b1, 0, none⟩)]) 116)) (h1 : w.heap[b1]? = some (.cells (vrow 266 s.at) 34)) (hok : okI s = true) (hx : x < 8) (hy : y < 8) : Calls Tryd.prog 89 #[.agg (vrow 2 (spAt x y)), .pointer (some ⟨b5, 0, none⟩), .pointer (some ⟨b1, 0, none⟩)] w fun e w' => e = .returned (.bool (edB s x y)) ∧ Below w.heap.size w w' := by
  have HC := Go.Lib.hid fun W h => ed1_any s b1 x y W h hx hy
  have HN := Go.Lib.hid fun W => nbr_nil s x y W hx hy hok
  have hnl : (nbs s x y 4).length ≤ 64 := Nat.le_trans (nbs_len s x y 4) (by omega)
  have HF := fun W v B h hO => coE_any s b1 (nbs s x y 4) v B W hnl h hO
  have X : Hid ((w.alloc (.cells (vrow 2 (spAt x y)) 111)).heap[w.heap.size]? = some (.cells (vrow 2 (spAt x y)) 111)) := (heap_at _ _ _ (by simp))
  have hB : Hid (Below w.heap.size w (w.alloc (.cells (vrow 2 (spAt x y)) 111))) := Go.Lib.hid ((Below.refl w.heap.size w).alloc (by simp <;> omega) _)
  have P : Hid ((w.alloc (.cells (vrow 2 (spAt x y)) 111)).heap[b1]? = some (.cells (vrow 266 s.at) 34)) := heap_past _ _ _ _ (row_lt h1) h1
  have C : Hid ((w.alloc (.cells (vrow 2 (spAt x y)) 111)).heap[b5]? = some (.cells (vrow 1 fun _ => .func (.func 87) #[] #[.pointer (some ⟨b1, 0, none⟩)]) 116)) := heap_past _ _ _ _ (row_lt h5) h5
  clear h1 h5
  have hed : edB s x y = (!(s.wet (8 * y + x) == 0) && (nbs s x y 4).any (dryB s)) := rfl
  rw [hed]
  clear hed
  generalize (nbs s x y 4).any (dryB s) = an at *
  generalize nbs s x y 4 = l at *
  generalize (s.wet (8 * y + x) == 0) = bb at *
  go_enter Tryd.func89, Tryd.ntmps89
  go_wp2
  refine Code.wp_mono (Q := fun e a' W' => e = .normal ∧ a'.tmps.getD 4 undef = .bool (!bb && an) ∧ a'.defers = [] ∧ Below w.heap.size w W') ?_ ?_
  rotate_left
  · refine wp_region_held_drew (S := fun X => X.heap[b5]? = some (.cells (vrow 1 fun _ => .func (.func 87) #[] #[.pointer (some ⟨b1, 0, none⟩)]) 116) ∧ X.heap[b1]? = some (.cells (vrow 266 s.at) 34) ∧ X.heap[w.heap.size]? = some (.cells (vrow 2 (spAt x y)) 111) ∧ Below w.heap.size w X) (by kernel_rfl) ⟨C.out, P.out, X.out, hB.out.drew⟩ (fun hH => ?_)
    clear hB P X C
    generalize World.drew _ = W at hH ⊢
    refine wpAnyH_take (i := 0) (v := (.func (.func 87) #[] #[.pointer (some ⟨b1, 0, none⟩)])) rfl (by kernel_rfl) (by kernel_rfl) (by kernel_rfl) (fun _ _ _ h => by cases h.1) (yields_one (by kernel_rfl) 116 _ rfl b5 0 rfl 1 (fun _ => .func (.func 87) #[] #[.pointer (some ⟨b1, 0, none⟩)]) 116 _ Tryd.underlying116 rfl (by omega) (fun _ h => h.1)) hH ?_
    (try simp only [List.getElem_toArray, List.getElem_cons_succ, List.getElem_cons_zero, Act.put, List.setIfInBounds_toArray, List.set_cons_succ, List.set_cons_zero])
    refine wpAnyH_take (i := 1) (v := (.agg (vrow 2 (spAt x y)))) rfl (by kernel_rfl) (by kernel_rfl) (by kernel_rfl) (fun _ _ _ h => by cases h.1) (yields_row (by kernel_rfl) 111 _ rfl w.heap.size rfl 2 (spAt x y) 111 _ Tryd.underlying111 rfl size_spot (fun _ h => h.2.2.1)) hH ?_
    (try simp only [List.getElem_toArray, List.getElem_cons_succ, List.getElem_cons_zero, Act.put, List.setIfInBounds_toArray, List.set_cons_succ, List.set_cons_zero])
    refine wpAnyH_ready (rs := [2]) (by kernel_rfl) (by simp) (AllReadyH.cons rfl (fun K hK => ?_) AllReadyH.nil)
    rw [if_pos (by kernel_rfl)]
    go_simp
    go_at_call 87
    refine (HC.out _ hH.2.1).mono ?_
    rintro o X1 ⟨rfl, hb⟩
    replace hH : X1.heap[b5]? = some (.cells (vrow 1 fun _ => .func (.func 87) #[] #[.pointer (some ⟨b1, 0, none⟩)]) 116) ∧ X1.heap[b1]? = some (.cells (vrow 266 s.at) 34) ∧ X1.heap[w.heap.size]? = some (.cells (vrow 2 (spAt x y)) 111) ∧ Below w.heap.size w X1 := ⟨row_next hb hH.1, row_next hb hH.2.1, row_next hb hH.2.2.1, hH.2.2.2.trans (hb.mono hH.2.2.2.size)⟩
    clear hb
    refine hK.out _ _ hH (fun hH => ?_)
    clear hK K
    (try simp only [List.getElem_toArray, List.getElem_cons_succ, List.getElem_cons_zero, Act.put, List.setIfInBounds_toArray, List.set_cons_succ, List.set_cons_zero])
    cases bb
    · refine wpAnyH_take (i := 3) (v := (.bool true)) rfl (by kernel_rfl) (by kernel_rfl) (by kernel_rfl) (fun _ _ _ h => by cases h.1) (.inl ⟨by kernel_rfl, fun w hw => by go_simp⟩) hH ?_
      (try simp only [List.getElem_toArray, List.getElem_cons_succ, List.getElem_cons_zero, Act.put, List.setIfInBounds_toArray, List.set_cons_succ, List.set_cons_zero])
      refine wpAnyH_take (i := 4) (v := (.bool true)) rfl (by kernel_rfl) (by kernel_rfl) (by kernel_rfl) (fun _ _ _ h => by cases h.1) (.inl ⟨by kernel_rfl, fun w hw => by go_simp⟩) hH ?_
      (try simp only [List.getElem_toArray, List.getElem_cons_succ, List.getElem_cons_zero, Act.put, List.setIfInBounds_toArray, List.set_cons_succ, List.set_cons_zero])
      refine wpAnyH_take (i := 5) (v := (.agg (vrow 266 s.at))) rfl (by kernel_rfl) (by kernel_rfl) (by kernel_rfl) (fun _ _ _ h => by cases h.1) (yields_row (by kernel_rfl) 34 _ rfl b1 rfl 266 s.at 34 _ Tryd.underlying34 rfl size_sheet (fun _ h => h.2.1)) hH ?_
      (try simp only [List.getElem_toArray, List.getElem_cons_succ, List.getElem_cons_zero, Act.put, List.setIfInBounds_toArray, List.set_cons_succ, List.set_cons_zero])
      refine wpAnyH_take (i := 6) (v := (.agg (vrow 2 (spAt x y)))) rfl (by kernel_rfl) (by kernel_rfl) (by kernel_rfl) (fun _ _ _ h => by cases h.1) (yields_row (by kernel_rfl) 111 _ rfl w.heap.size rfl 2 (spAt x y) 111 _ Tryd.underlying111 rfl size_spot (fun _ h => h.2.2.1)) hH ?_
      (try simp only [List.getElem_toArray, List.getElem_cons_succ, List.getElem_cons_zero, Act.put, List.setIfInBounds_toArray, List.set_cons_succ, List.set_cons_zero])
      refine wpAnyH_take (i := 8) (v := (.func (.func 87) #[] #[.pointer (some ⟨b1, 0, none⟩)])) rfl (by kernel_rfl) (by kernel_rfl) (by kernel_rfl) (fun _ _ _ h => by cases h.1) (yields_one (by kernel_rfl) 116 _ rfl b5 0 rfl 1 (fun _ => .func (.func 87) #[] #[.pointer (some ⟨b1, 0, none⟩)]) 116 _ Tryd.underlying116 rfl (by omega) (fun _ h => h.1)) hH ?_
      (try simp only [List.getElem_toArray, List.getElem_cons_succ, List.getElem_cons_zero, Act.put, List.setIfInBounds_toArray, List.set_cons_succ, List.set_cons_zero])
      refine wpAnyH_ready (rs := [7]) (by kernel_rfl) (by simp) (AllReadyH.cons rfl (fun K hK => ?_) AllReadyH.nil)
      rw [if_pos (by kernel_rfl)]
      go_simp
      go_at_call 91
      refine (HN.out _).mono ?_
      rintro o X2 ⟨v, rfl, hO, hb⟩
      replace hH : X2.heap[b5]? = some (.cells (vrow 1 fun _ => .func (.func 87) #[] #[.pointer (some ⟨b1, 0, none⟩)]) 116) ∧ X2.heap[b1]? = some (.cells (vrow 266 s.at) 34) ∧ X2.heap[w.heap.size]? = some (.cells (vrow 2 (spAt x y)) 111) ∧ Below w.heap.size w X2 := ⟨row_next hb hH.1, row_next hb hH.2.1, row_next hb hH.2.2.1, hH.2.2.2.trans (hb.mono hH.2.2.2.size)⟩
      clear hb
      refine hK.out _ _ hH (fun hH => ?_)
      clear hK K
      (try simp only [List.getElem_toArray, List.getElem_cons_succ, List.getElem_cons_zero, Act.put, List.setIfInBounds_toArray, List.set_cons_succ, List.set_cons_zero])
      refine wpAnyH_ready (rs := [9]) (by kernel_rfl) (by simp) (AllReadyH.cons rfl (fun K hK => ?_) AllReadyH.nil)
      rw [if_pos (by kernel_rfl)]
      go_simp
      go_at_call 90
      refine (HF _ _ _ hH.2.1 hO).mono ?_
      rintro o X3 ⟨rfl, hb⟩
      replace hH : X3.heap[b5]? = some (.cells (vrow 1 fun _ => .func (.func 87) #[] #[.pointer (some ⟨b1, 0, none⟩)]) 116) ∧ X3.heap[b1]? = some (.cells (vrow 266 s.at) 34) ∧ X3.heap[w.heap.size]? = some (.cells (vrow 2 (spAt x y)) 111) ∧ Below w.heap.size w X3 := ⟨row_next hb hH.1, row_next hb hH.2.1, row_next hb hH.2.2.1, hH.2.2.2.trans (hb.mono hH.2.2.2.size)⟩
      clear hb
      refine hK.out _ _ hH (fun hH => ?_)
      clear hK K
      (try simp only [List.getElem_toArray, List.getElem_cons_succ, List.getElem_cons_zero, Act.put, List.setIfInBounds_toArray, List.set_cons_succ, List.set_cons_zero])
      refine wpAnyH_take (i := 10) (v := (.bool an)) rfl (by kernel_rfl) (by kernel_rfl) (by kernel_rfl) (fun _ _ _ h => by cases h.1) (.inl ⟨by kernel_rfl, fun w hw => by go_simp⟩) hH ?_
      (try simp only [List.getElem_toArray, List.getElem_cons_succ, List.getElem_cons_zero, Act.put, List.setIfInBounds_toArray, List.set_cons_succ, List.set_cons_zero])
      refine wpAnyH_take (i := 11) (v := (.bool an)) rfl (by kernel_rfl) (by kernel_rfl) (by kernel_rfl) (fun _ _ _ h => by cases h.1) (.inl ⟨by kernel_rfl, fun w hw => by go_simp⟩) hH ?_
      (try simp only [List.getElem_toArray, List.getElem_cons_succ, List.getElem_cons_zero, Act.put, List.setIfInBounds_toArray, List.set_cons_succ, List.set_cons_zero])
      refine wpAnyH_done (by kernel_rfl) ?_ _
      exact ⟨rfl, by simp, rfl, hH.2.2.2⟩
    · refine wpAnyH_take (i := 3) (v := (.bool false)) rfl (by kernel_rfl) (by kernel_rfl) (by kernel_rfl) (fun _ _ _ h => by cases h.1) (.inl ⟨by kernel_rfl, fun w hw => by go_simp⟩) hH ?_
      (try simp only [List.getElem_toArray, List.getElem_cons_succ, List.getElem_cons_zero, Act.put, List.setIfInBounds_toArray, List.set_cons_succ, List.set_cons_zero])
      refine wpAnyH_take (i := 4) (v := (.bool false)) rfl (by kernel_rfl) (by kernel_rfl) (by kernel_rfl) (fun _ _ _ h => by cases h.1) (.inl ⟨by kernel_rfl, fun w hw => by go_simp⟩) hH ?_
      (try simp only [List.getElem_toArray, List.getElem_cons_succ, List.getElem_cons_zero, Act.put, List.setIfInBounds_toArray, List.set_cons_succ, List.set_cons_zero])
      refine wpAnyH_take (i := 5) (v := (undef)) rfl (by kernel_rfl) (by kernel_rfl) (by kernel_rfl) (fun _ _ _ h => by cases h.1) (.inr ⟨by kernel_rfl, rfl⟩) hH ?_
      (try simp only [List.getElem_toArray, List.getElem_cons_succ, List.getElem_cons_zero, Act.put, List.setIfInBounds_toArray, List.set_cons_succ, List.set_cons_zero])
      refine wpAnyH_take (i := 6) (v := (undef)) rfl (by kernel_rfl) (by kernel_rfl) (by kernel_rfl) (fun _ _ _ h => by cases h.1) (.inr ⟨by kernel_rfl, rfl⟩) hH ?_
      (try simp only [List.getElem_toArray, List.getElem_cons_succ, List.getElem_cons_zero, Act.put, List.setIfInBounds_toArray, List.set_cons_succ, List.set_cons_zero])
      refine wpAnyH_take (i := 7) (v := (undef)) rfl (by kernel_rfl) (by kernel_rfl) (by kernel_rfl) (fun _ _ _ h => by cases h.1) (.inr ⟨by kernel_rfl, rfl⟩) hH ?_
      (try simp only [List.getElem_toArray, List.getElem_cons_succ, List.getElem_cons_zero, Act.put, List.setIfInBounds_toArray, List.set_cons_succ, List.set_cons_zero])
      refine wpAnyH_take (i := 8) (v := (undef)) rfl (by kernel_rfl) (by kernel_rfl) (by kernel_rfl) (fun _ _ _ h => by cases h.1) (.inr ⟨by kernel_rfl, rfl⟩) hH ?_
      (try simp only [List.getElem_toArray, List.getElem_cons_succ, List.getElem_cons_zero, Act.put, List.setIfInBounds_toArray, List.set_cons_succ, List.set_cons_zero])
      refine wpAnyH_take (i := 9) (v := (undef)) rfl (by kernel_rfl) (by kernel_rfl) (by kernel_rfl) (fun _ _ _ h => by cases h.1) (.inr ⟨by kernel_rfl, rfl⟩) hH ?_
      (try simp only [List.getElem_toArray, List.getElem_cons_succ, List.getElem_cons_zero, Act.put, List.setIfInBounds_toArray, List.set_cons_succ, List.set_cons_zero])
      refine wpAnyH_take (i := 10) (v := (.bool false)) rfl (by kernel_rfl) (by kernel_rfl) (by kernel_rfl) (fun _ _ _ h => by cases h.1) (.inl ⟨by kernel_rfl, fun w hw => by go_simp⟩) hH ?_
      (try simp only [List.getElem_toArray, List.getElem_cons_succ, List.getElem_cons_zero, Act.put, List.setIfInBounds_toArray, List.set_cons_succ, List.set_cons_zero])
      refine wpAnyH_take (i := 11) (v := (.bool false)) rfl (by kernel_rfl) (by kernel_rfl) (by kernel_rfl) (fun _ _ _ h => by cases h.1) (.inl ⟨by kernel_rfl, fun w hw => by go_simp⟩) hH ?_
      (try simp only [List.getElem_toArray, List.getElem_cons_succ, List.getElem_cons_zero, Act.put, List.setIfInBounds_toArray, List.set_cons_succ, List.set_cons_zero])
      refine wpAnyH_done (by kernel_rfl) ?_ _
      exact ⟨rfl, by simp, rfl, hH.2.2.2⟩
  rintro e1 a1 W1 ⟨rfl, h4, hdf, hB1⟩
  go_wp2
  exact ret_tmpE Tryd.results89 h4 hdf ⟨rfl, hB1⟩
end Go.Proofs.YtmcpaangofdmpaaDoor
