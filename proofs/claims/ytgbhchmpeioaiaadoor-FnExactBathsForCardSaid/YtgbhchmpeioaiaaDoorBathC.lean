import Derived.Test.YtgbhchmpeioaiaaDoorBathI
namespace Go.Proofs.YtgbhchmpeioaiaaDoor
open Go.RowKit
set_option maxRecDepth 100000
set_option linter.unusedVariables false
set_option linter.unusedSimpArgs false
theorem Baths.sl {W : World} {base : Nat} {v : Value} {k : Int} {L : List Sp8} {s : Sh} {n : Nat} (h : Baths W base v k L s n) : ∃ ad cap, v = .slice ad n cap := by
  by_cases hn : n = 0
  · subst hn
    obtain ⟨b, cap, rfl | rfl⟩ := h.nil_cases
    · exact ⟨_, _, rfl⟩
    · exact ⟨_, _, rfl⟩
  · obtain ⟨g, cap, f, rfl, _⟩ := h.row (by omega)
    exact ⟨_, _, rfl⟩
set_option maxHeartbeats 2000000 in
theorem implCB_err (s : Sh) (k n b v : Int) (m : Nat) (e : ErrE) (w : World) (hE : Errs e w) (HC0 : ∀ w, Errs e w → Calls Tryd.prog 62 #[.agg s.row, .int .i64 k, .int .i64 n] w fun o w' => o = .returned (errP e m) ∧ Below w.heap.size w w')
    (HD0 : ∀ w, Errs e w → Calls Tryd.prog 53 #[errP e m] w fun o w' => o = .returned (.int .i64 v) ∧ Below w.heap.size w w') :
    Calls Tryd.prog 35 #[.agg s.row, .int .i64 k, .int .i64 n, .int .i64 b] w fun o w' => o = .returned (.tuple #[.int .i64 0, .int .i64 v]) ∧ Below w.heap.size w w' := by
  have HC := Go.Lib.hid HC0
  have HD := Go.Lib.hid HD0
  clear HC0 HD0
  have P : Hid ((w.alloc (.cells (vrow 266 s.at) 35)).heap[w.heap.size]? = some (.cells (vrow 266 s.at) 35)) := heap_at _ _ _ (by simp)
  have hB : Hid (Below w.heap.size w (w.alloc (.cells (vrow 266 s.at) 35))) := ((Below.refl w.heap.size w).alloc (by simp <;> omega) _)
  go_enter Tryd.func35, Tryd.ntmps35
  go_wp2_with (first
    | go_skip | ((with_reducible refine wlAt 14 rfl ?_); refine wpList_loadall rfl 35 (.tmp 4) rfl _ rfl 266 s.at 35 _ Tryd.underlying35 rfl size_sheet P.out ?_) | (go_at_call 62; (refine (HC.out _ (hE.next hB.out)).mono ?_); rintro o w1 ⟨rfl, hb⟩; replace P := Go.Lib.hid (row_next hb P.out); replace hB := Go.Lib.hid (below_next hB.out hb); clear hb)
    | (go_at_call 53; (refine (HD.out _ (hE.next hB.out)).mono ?_); rintro o w1 ⟨rfl, hb⟩; replace P := Go.Lib.hid (row_next hb P.out); replace hB := Go.Lib.hid (below_next hB.out hb); clear hb))
  go_ret2
  exact ⟨rfl, hB.out⟩
set_option maxHeartbeats 2000000 in
theorem implCB_rng (s : Sh) (k n b : Int) (e : ErrE) (w : World) (hE : Errs e w) (HC0 : ∀ w, Errs e w → Calls Tryd.prog 62 #[.agg s.row, .int .i64 k, .int .i64 n] w fun o w' => o = .returned .nilIface ∧ Below w.heap.size w w') (hb : b < 0) :
    Calls Tryd.prog 35 #[.agg s.row, .int .i64 k, .int .i64 n, .int .i64 b] w fun o w' => o = .returned (.tuple #[.int .i64 0, .int .i64 2]) ∧ Below w.heap.size w w' := by
  have HC := Go.Lib.hid HC0
  have q1 : decide (b < 0) = true := by simpa using hb
  clear HC0 hb
  have P : Hid ((w.alloc (.cells (vrow 266 s.at) 35)).heap[w.heap.size]? = some (.cells (vrow 266 s.at) 35)) := heap_at _ _ _ (by simp)
  have hB : Hid (Below w.heap.size w (w.alloc (.cells (vrow 266 s.at) 35))) := ((Below.refl w.heap.size w).alloc (by simp <;> omega) _)
  go_enter Tryd.func35, Tryd.ntmps35
  go_wp2_with (first
    | go_skip | ((with_reducible refine wlAt 14 rfl ?_); refine wpList_loadall rfl 35 (.tmp 4) rfl _ rfl 266 s.at 35 _ Tryd.underlying35 rfl size_sheet P.out ?_) | (go_at_call 62; (refine (HC.out _ (hE.next hB.out)).mono ?_); rintro o w1 ⟨rfl, hb⟩; replace P := Go.Lib.hid (row_next hb P.out); replace hB := Go.Lib.hid (below_next hB.out hb); clear hb))
  go_ret2
  exact ⟨rfl, hB.out⟩
set_option maxHeartbeats 8000000 in
theorem implCB_ok (s : Sh) (k b : Int) (n jn a c : Nat) (e : ErrE) (w : World) (hE : Errs e w) (ho : okI s = true) (ea : s.wide = a) (ec : s.high = c) (ha : 1 ≤ a ∧ a ≤ 8) (hc : 1 ≤ c ∧ c ≤ 8) (hgd : Gd s s) (h1 : 1 ≤ k) (h2 : k ≤ 15) (hn : n ≤ 100) (hb0 : 0 ≤ b) (hj : jn ≤ n) (hj1 : jn < n → btS k (cellsL a c) s jn ≤ b) (hj2 : ∀ i, i < jn → b < btS k (cellsL a c) s i) :
    Calls Tryd.prog 35 #[.agg s.row, .int .i64 k, .int .i64 n, .int .i64 b] w fun o w' => o = .returned (cbA jn n) ∧ Below w.heap.size w w' := by
  have HC := Go.Lib.hid fun w hE => ckRi_ok s k n e w hE ho ⟨h1, h2⟩ ⟨by omega, by omega⟩
  have HBT := Go.Lib.hid fun w mt hm => ibaths_any s k n mt a c w hm ea ec ha hc hgd h1 h2 hn
  have HBD := Go.Lib.hid fun i m hm => btO_bd hgd h1 h2 (cellsL a c) i m hm
  have HJ2 := Go.Lib.hid hj2; have HJ1 := Go.Lib.hid hj1
  have q1 : decide (b < 0) = false := by simpa using hb0
  have zy := zero_i3
  have zb := zero_ba
  clear hgd hj1 hj2 ea ec ha hc ho
  generalize cellsL a c = L at *
  have P : Hid ((w.alloc (.cells (vrow 266 s.at) 35)).heap[w.heap.size]? = some (.cells (vrow 266 s.at) 35)) := heap_at _ _ _ (by simp)
  have hB : Hid (Below w.heap.size w (w.alloc (.cells (vrow 266 s.at) 35))) := ((Below.refl w.heap.size w).alloc (by simp <;> omega) _)
  go_enter Tryd.func35, Tryd.ntmps35
  go_wp2_with (first
    | go_skip | ((with_reducible refine wlAt 14 rfl ?_); refine wpList_loadall rfl 35 (.tmp 4) rfl _ rfl 266 s.at 35 _ Tryd.underlying35 rfl size_sheet P.out ?_) | (go_at_call 62; (refine (HC.out _ (hE.next hB.out)).mono ?_); rintro o w1 ⟨rfl, hb⟩; replace P := Go.Lib.hid (row_next hb P.out); replace hB := Go.Lib.hid (below_next hB.out hb); clear hb)
    | ((with_reducible refine wlAt 24 rfl ?_); refine wpList_loadall rfl 35 (.tmp 4) rfl _ rfl 266 s.at 35 _ Tryd.underlying35 rfl size_sheet P.out ?_)
    | ((with_reducible refine wlAt 26 rfl ?_); refine wpList_built rfl 89 [(0, .tmp 24), (1, .tmp 25)] rfl [(0, .agg (vrow 266 s.at)), (1, .int .i64 k)] (by rfl) _ (built_ba _ _) ?_)
    | ((with_reducible refine wlOp (.store 89 (.tmp 11) (.tmp 26)) rfl ?_); refine wpList_storeall rfl 89 (.tmp 11) (.tmp 26) rfl _ rfl 267 (baAt Sh.zero 0) (baAt s k) rfl 89 size_ba (heap_at _ _ _ rfl) (fun i _ => baAt_one _ _ i) ?_; rw [setRow_at _ _ _ _ _ rfl]; have M := Go.Lib.hid (heap_at w1 (.cells (vrow 267 (baAt s k)) 89) _ rfl); have hbs := hB.out.size; replace hB := Go.Lib.hid (hB.out.alloc hbs (.cells (vrow 267 (baAt s k)) 89)); clear P; generalize w1.heap.size = mb at M hbs ⊢; generalize w1.alloc _ = w2 at M hB ⊢)
    | (go_at_call 73; (refine (HBT.out _ _ M.out).mono ?_); rintro o w3 ⟨v, rfl, hO, hg⟩; obtain ⟨ad, cap0, rfl⟩ := hO.sl; replace hB := Go.Lib.hid (hB.out.grown hg hB.out.size (fun q hq => by cases hq; omega)); clear hg M))
  by_cases hn0 : n = 0
  · subst hn0
    obtain rfl : jn = 0 := by omega
    have hcA : cbA 0 0 = .tuple #[.int .i64 0, .int .i64 6] := rfl
    clear hO HJ1 HJ2 HBD HBT
    replace hcA := Go.Lib.hid hcA
    go_loopw [31] (fun iv wr => iv = .int .i64 0 ∧ Below w.heap.size w wr) (fun _ _ => 0)
    case atStart => exact ⟨rfl, hB.out⟩
    case round =>
      obtain ⟨rfl, hB1⟩ := hrel
      go_wp2
      go_ret2
      exact ⟨by rw [hcA.out]; rfl, hB1⟩
  · obtain ⟨g, cap, f, hv, hg, hcap, hG2, hf2⟩ := hO.row (by omega)
    injection hv with hv1 hv2 hv3
    subst hv1 hv3
    have G := Go.Lib.hid hG2; have HF := Go.Lib.hid hf2
    clear hO hG2 hf2 hv2
    obtain ⟨wo, hwo⟩ : ∃ wo : World, wo = w3 := ⟨_, rfl⟩
    rw [← hwo] at hB G ⊢
    clear hwo w3
    go_loopw [31] (fun iv wr => ∃ q : Nat, q ≤ jn ∧ iv = .int .i64 q ∧ wr.heap[g]? = some (.cells (vrow (cap0 * 3) f) 32) ∧ Below w.heap.size w wr) (fun iv _ => n + 1 - (intOf iv).toNat)
    case atStart => exact ⟨0, by omega, rfl, G.out, hB.out⟩
    case round =>
      clear G hB
      obtain ⟨q, hq, rfl, G, hB⟩ := hrel
      replace G := Go.Lib.hid G; replace hB := Go.Lib.hid hB
      by_cases hlt : q < n
      · have hqI : (q : Int) < (n : Int) := by omega
        have hq0 : (0 : Int) ≤ (q : Int) := by omega
        have hqd : decide ((q : Int) < (n : Int)) = true := by simpa using hqI
        obtain ⟨b00, b01⟩ := HBD.out q 0 (by omega)
        obtain ⟨b10, b11⟩ := HBD.out q 1 (by omega)
        obtain ⟨b20, b21⟩ := HBD.out q 2 (by omega)
        have hrow : vrow 3 (fun m => f (q * 3 + m)) = vrow 3 (a3f (btO k L s q)) := vrow_ext _ _ _ fun m hm => HF.out q m hlt hm
        have HROW := Go.Lib.hid hrow
        have hcs : (q < jn ∧ decide (btO k L s q 0 + btO k L s q 1 + btO k L s q 2 ≤ b) = false) ∨ (q = jn ∧ decide (btO k L s q 0 + btO k L s q 1 + btO k L s q 2 ≤ b) = true) := by
          by_cases hqj : q < jn
          · exact .inl ⟨hqj, by have := HJ2.out q hqj; unfold btS at this; simpa using this⟩
          · obtain rfl : q = jn := by omega
            exact .inr ⟨rfl, by have := HJ1.out hlt; unfold btS at this; simpa using this⟩
        clear hrow HJ1 HJ2
        generalize btO k L s q = oo at *
        rcases hcs with ⟨hqj, hdd⟩ | ⟨rfl, hdd⟩
        · go_wp2_with (first
            | go_skip
            | ((with_reducible refine wlAt 35 rfl ?_); refine wpList_loadmid rfl 32 (.tmp 34) rfl g (q * 3) rfl (cap0 * 3) 3 f 32 _ Tryd.underlying32 rfl size_i3 G.out (by omega) ?_; rw [HROW.out])
            | ((with_reducible refine wlOp (.store 32 (.tmp 13) (.tmp 35)) rfl ?_); refine wpList_storeall rfl 32 (.tmp 13) (.tmp 35) rfl _ rfl 3 (fun _ => .int .i64 0) (a3f oo) rfl 32 size_i3 (heap_at _ _ _ rfl) (fun i _ => rfl) ?_; rw [setRow_at _ _ _ _ _ rfl]; have D := Go.Lib.hid (heap_at wr (.cells (vrow 3 (a3f oo)) 32) _ rfl); have nG := row_lt G.out; have hbs := hB.out.size; replace G := Go.Lib.hid (heap_past _ (.cells (vrow 3 (a3f oo)) 32) _ _ nG G.out); replace hB := Go.Lib.hid (hB.out.alloc hbs (.cells (vrow 3 (a3f oo)) 32)); generalize wr.heap.size = db at D ⊢; generalize wr.alloc _ = w5 at G D hB ⊢)
            | ((with_reducible refine wlAt 37 rfl ?_); refine wpList_load1 rfl 2 (.tmp 36) rfl db 0 rfl 3 (a3f oo) _ _ Tryd.underlying2 rfl D.out (by omega) ?_; rw [show a3f oo 0 = .int .i64 (oo 0) from rfl]; simp only [Act.put, List.setIfInBounds_toArray, List.set_cons_succ, List.set_cons_zero])
            | ((with_reducible refine wlAt 39 rfl ?_); refine wpList_load1 rfl 2 (.tmp 38) rfl db 1 rfl 3 (a3f oo) _ _ Tryd.underlying2 rfl D.out (by omega) ?_; rw [show a3f oo 1 = .int .i64 (oo 1) from rfl]; simp only [Act.put, List.setIfInBounds_toArray, List.set_cons_succ, List.set_cons_zero])
            | ((with_reducible refine wlAt 42 rfl ?_); refine wpList_load1 rfl 2 (.tmp 41) rfl db 2 rfl 3 (a3f oo) _ _ Tryd.underlying2 rfl D.out (by omega) ?_; rw [show a3f oo 2 = .int .i64 (oo 2) from rfl]; simp only [Act.put, List.setIfInBounds_toArray, List.set_cons_succ, List.set_cons_zero]))
          go_roundw
          case rel => exact ⟨q + 1, by omega, by go_num, G.out, hB.out⟩
          case measure => simp [intOf]; omega
        · have hcA : cbA q n = .tuple #[.int .i64 q, .int .i64 0] := if_pos hlt
          have HCA := Go.Lib.hid hcA
          clear hcA
          go_wp2_with (first
            | go_skip
            | ((with_reducible refine wlAt 35 rfl ?_); refine wpList_loadmid rfl 32 (.tmp 34) rfl g (q * 3) rfl (cap0 * 3) 3 f 32 _ Tryd.underlying32 rfl size_i3 G.out (by omega) ?_; rw [HROW.out])
            | ((with_reducible refine wlOp (.store 32 (.tmp 13) (.tmp 35)) rfl ?_); refine wpList_storeall rfl 32 (.tmp 13) (.tmp 35) rfl _ rfl 3 (fun _ => .int .i64 0) (a3f oo) rfl 32 size_i3 (heap_at _ _ _ rfl) (fun i _ => rfl) ?_; rw [setRow_at _ _ _ _ _ rfl]; have D := Go.Lib.hid (heap_at wr (.cells (vrow 3 (a3f oo)) 32) _ rfl); have nG := row_lt G.out; have hbs := hB.out.size; replace G := Go.Lib.hid (heap_past _ (.cells (vrow 3 (a3f oo)) 32) _ _ nG G.out); replace hB := Go.Lib.hid (hB.out.alloc hbs (.cells (vrow 3 (a3f oo)) 32)); generalize wr.heap.size = db at D ⊢; generalize wr.alloc _ = w5 at G D hB ⊢)
            | ((with_reducible refine wlAt 37 rfl ?_); refine wpList_load1 rfl 2 (.tmp 36) rfl db 0 rfl 3 (a3f oo) _ _ Tryd.underlying2 rfl D.out (by omega) ?_; rw [show a3f oo 0 = .int .i64 (oo 0) from rfl]; simp only [Act.put, List.setIfInBounds_toArray, List.set_cons_succ, List.set_cons_zero])
            | ((with_reducible refine wlAt 39 rfl ?_); refine wpList_load1 rfl 2 (.tmp 38) rfl db 1 rfl 3 (a3f oo) _ _ Tryd.underlying2 rfl D.out (by omega) ?_; rw [show a3f oo 1 = .int .i64 (oo 1) from rfl]; simp only [Act.put, List.setIfInBounds_toArray, List.set_cons_succ, List.set_cons_zero])
            | ((with_reducible refine wlAt 42 rfl ?_); refine wpList_load1 rfl 2 (.tmp 41) rfl db 2 rfl 3 (a3f oo) _ _ Tryd.underlying2 rfl D.out (by omega) ?_; rw [show a3f oo 2 = .int .i64 (oo 2) from rfl]; simp only [Act.put, List.setIfInBounds_toArray, List.set_cons_succ, List.set_cons_zero]))
          go_ret2
          exact ⟨by rw [HCA.out]; rfl, hB.out⟩
      · obtain rfl : q = n := by omega
        obtain rfl : jn = q := by omega
        have hqd : decide ((jn : Int) < (jn : Int)) = false := by simp
        have hcA : cbA jn jn = .tuple #[.int .i64 0, .int .i64 6] := if_neg (by omega)
        have HCA := Go.Lib.hid hcA
        clear hcA
        go_wp2
        go_ret2
        exact ⟨by rw [HCA.out]; rfl, hB.out⟩
end Go.Proofs.YtgbhchmpeioaiaaDoor
