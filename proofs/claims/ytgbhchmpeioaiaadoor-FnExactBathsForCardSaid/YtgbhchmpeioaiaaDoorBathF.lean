import Derived.Test.YtgbhchmpeioaiaaDoorBathC
namespace Go.Proofs.YtgbhchmpeioaiaaDoor
open Go.RowKit
set_option maxRecDepth 100000
set_option linter.unusedVariables false
set_option linter.unusedSimpArgs false
/-- a slice of n rows of three numbers, in a block at or behind base -/
def SlA (W : World) (base : Nat) (v : Value) (n : Nat) (O : Nat → Nat → Int) : Prop :=
  ∃ ad cap, v = .slice ad n cap ∧ (0 < n → ∃ g f, ad = some ⟨g, 0, none⟩ ∧ base ≤ g ∧ n ≤ cap ∧ W.heap[g]? = some (.cells (vrow (cap * 3) f) 32) ∧ ∀ i m, i < n → m < 3 → f (i * 3 + m) = .int .i64 (O i m))
theorem Baths.sla {W : World} {base base' : Nat} {v : Value} {k : Int} {L : List Sp8} {s : Sh} {n : Nat} (h : Baths W base v k L s n) (hb : base' ≤ base) : SlA W base' v n (btO k L s) := by
  obtain ⟨ad, cap, rfl⟩ := h.sl
  refine ⟨ad, cap, rfl, fun hn => ?_⟩
  obtain ⟨g, cap', f, hv, hg, hc, hG, hf⟩ := h.row hn
  injection hv with h1 h2 h3
  subst h1 h3
  exact ⟨g, f, rfl, Nat.le_trans hb hg, hc, hG, hf⟩
theorem SlA.nil (W : World) (base : Nat) (ad : Option Addr) (cap : Nat) (O : Nat → Nat → Int) : SlA W base (.slice ad 0 cap) 0 O := ⟨ad, cap, rfl, fun h => by omega⟩
def bfIn (n : Int) : Bool := decide (0 ≤ n) && decide (n ≤ 100)
set_option maxHeartbeats 4000000 in
theorem specBF_err (s : Sh) (k n v : Int) (O : Nat → Nat → Int) (w : World) (hf : s.fit) (hc : bathC (okI s) k (bfIn n) = v) (hv : v = 1 ∨ v = 2) : Calls Tryd.prog 29 #[.agg s.row, .int .i64 k, .int .i64 n] w fun o w' => ∃ v0, o = .returned (.tuple #[v0, .int .i64 v]) ∧ SlA w' w.heap.size v0 0 O ∧ Below w.heap.size w w' := by
  have P : Hid ((w.alloc (.cells (vrow 266 s.at) 35)).heap[w.heap.size]? = some (.cells (vrow 266 s.at) 35)) := heap_at _ _ _ (by simp)
  have hB : Hid (Below w.heap.size w (w.alloc (.cells (vrow 266 s.at) 35))) := ((Below.refl w.heap.size w).alloc (by simp <;> omega) _)
  have HIN : Hid (∀ w, Calls Tryd.prog 71 #[.int .i64 n, .int .i64 0, .int .i64 100] w fun o w' => o = .returned (.bool (bfIn n)) ∧ Below w.heap.size w w') := Go.Lib.hid fun w => by
    unfold bfIn
    by_cases h : 0 ≤ n ∧ n ≤ 100
    · rw [decide_eq_true h.1, decide_eq_true h.2]; exact in_yes n 0 100 h.1 h.2 w
    · rw [show (decide (0 ≤ n) && decide (n ≤ 100)) = false by simp; omega]; exact in_no n 0 100 (by omega) w
  have HB := Go.Lib.hid fun v c hs => lbath_any s c k (bfIn n) v hs hf
  rw [hc] at HB
  clear hc hf
  generalize bfIn n = d1 at *
  rcases hv with rfl | rfl
  all_goals
    go_enter Tryd.func29, Tryd.ntmps29
    go_wp2_with (first
      | go_skip
      | (go_at_call 71; (refine (HIN.out _).mono ?_); rintro o w1 ⟨rfl, hb⟩; replace P := Go.Lib.hid (row_next hb P.out); replace hB := Go.Lib.hid (below_next hB.out hb); clear hb)
      | (go_at_call 60; (refine (HB.out _ _ P.out).mono ?_); rintro o w2 ⟨rfl, hb⟩; replace P := Go.Lib.hid (row_next hb P.out); replace hB := Go.Lib.hid (below_next hB.out hb); have hsz := hB.out.size; clear hb))
    go_ret2
    exact ⟨_, rfl, SlA.nil _ _ _ _ _, hB.out.alloc hsz _⟩
set_option maxHeartbeats 4000000 in
theorem specBF_ok (s : Sh) (k : Int) (n a c : Nat) (w : World) (hf : s.fit) (hc0 : bathC (okI s) k (bfIn n) = 0) (ea : s.wide = a) (ec : s.high = c) (ha : 1 ≤ a ∧ a ≤ 8) (hc : 1 ≤ c ∧ c ≤ 8) (hgd : Gd s s) (h1 : 1 ≤ k) (h2 : k ≤ 15) (hn : n ≤ 100) :
    Calls Tryd.prog 29 #[.agg s.row, .int .i64 k, .int .i64 n] w fun o w' => ∃ v0, o = .returned (.tuple #[v0, .int .i64 0]) ∧ SlA w' w.heap.size v0 n (btO k (cellsL a c) s) ∧ Below w.heap.size w w' := by
  have P : Hid ((w.alloc (.cells (vrow 266 s.at) 35)).heap[w.heap.size]? = some (.cells (vrow 266 s.at) 35)) := heap_at _ _ _ (by simp)
  have hB : Hid (Below w.heap.size w (w.alloc (.cells (vrow 266 s.at) 35))) := ((Below.refl w.heap.size w).alloc (by simp <;> omega) _)
  have HIN := Go.Lib.hid fun w => in_yes n 0 100 (by omega) (by omega) w
  have HB := Go.Lib.hid fun v c hs => lbath_any s c k (bfIn n) v hs hf
  rw [hc0] at HB
  have hcb : bfIn n = true := by simp [bfIn]; omega
  rw [hcb] at HB
  have HBT := Go.Lib.hid fun w => lbaths_any s k n a c w ea ec ha hc hgd h1 h2 hn
  clear hc0 hf hcb hgd ea ec ha hc
  go_enter Tryd.func29, Tryd.ntmps29
  go_wp2_with (first
    | go_skip
    | (go_at_call 71; (refine (HIN.out _).mono ?_); rintro o w1 ⟨rfl, hb⟩; replace P := Go.Lib.hid (row_next hb P.out); replace hB := Go.Lib.hid (below_next hB.out hb); clear hb)
    | (go_at_call 60; (refine (HB.out _ _ P.out).mono ?_); rintro o w2 ⟨rfl, hb⟩; replace P := Go.Lib.hid (row_next hb P.out); replace hB := Go.Lib.hid (below_next hB.out hb); clear hb)
    | ((with_reducible refine wlAt 17 rfl ?_); refine wpList_loadall rfl 35 (.tmp 3) rfl _ rfl 266 s.at 35 _ Tryd.underlying35 rfl size_sheet P.out ?_)
    | (go_at_call 72; (refine (HBT.out _).mono ?_); rintro o w3 ⟨v, rfl, hO, hb⟩; have hsz := hB.out.size; replace hB := Go.Lib.hid (below_next hB.out hb); clear hb P))
  go_ret2
  exact ⟨_, rfl, hO.sla (by omega), hB.out⟩
set_option maxHeartbeats 2000000 in
theorem implBF_err (s : Sh) (k n v : Int) (m : Nat) (O : Nat → Nat → Int) (e : ErrE) (w : World) (hE : Errs e w) (HC0 : ∀ w, Errs e w → Calls Tryd.prog 62 #[.agg s.row, .int .i64 k, .int .i64 n] w fun o w' => o = .returned (errP e m) ∧ Below w.heap.size w w')
    (HD0 : ∀ w, Errs e w → Calls Tryd.prog 53 #[errP e m] w fun o w' => o = .returned (.int .i64 v) ∧ Below w.heap.size w w') :
    Calls Tryd.prog 30 #[.agg s.row, .int .i64 k, .int .i64 n] w fun o w' => ∃ v0, o = .returned (.tuple #[v0, .int .i64 v]) ∧ SlA w' w.heap.size v0 0 O ∧ Below w.heap.size w w' := by
  have HC := Go.Lib.hid HC0
  have HD := Go.Lib.hid HD0
  clear HC0 HD0
  have P : Hid ((w.alloc (.cells (vrow 266 s.at) 35)).heap[w.heap.size]? = some (.cells (vrow 266 s.at) 35)) := heap_at _ _ _ (by simp)
  have hB : Hid (Below w.heap.size w (w.alloc (.cells (vrow 266 s.at) 35))) := ((Below.refl w.heap.size w).alloc (by simp <;> omega) _)
  go_enter Tryd.func30, Tryd.ntmps30
  go_wp2_with (first
    | go_skip | ((with_reducible refine wlAt 10 rfl ?_); refine wpList_loadall rfl 35 (.tmp 3) rfl _ rfl 266 s.at 35 _ Tryd.underlying35 rfl size_sheet P.out ?_) | (go_at_call 62; (refine (HC.out _ (hE.next hB.out)).mono ?_); rintro o w1 ⟨rfl, hb⟩; replace P := Go.Lib.hid (row_next hb P.out); replace hB := Go.Lib.hid (below_next hB.out hb); clear hb)
    | (go_at_call 53; (refine (HD.out _ (hE.next hB.out)).mono ?_); rintro o w1 ⟨rfl, hb⟩; replace P := Go.Lib.hid (row_next hb P.out); replace hB := Go.Lib.hid (below_next hB.out hb); clear hb))
  go_ret2
  exact ⟨_, rfl, SlA.nil _ _ _ _ _, hB.out⟩
set_option maxHeartbeats 4000000 in
theorem implBF_ok (s : Sh) (k : Int) (n a c : Nat) (e : ErrE) (w : World) (hE : Errs e w) (ho : okI s = true) (ea : s.wide = a) (ec : s.high = c) (ha : 1 ≤ a ∧ a ≤ 8) (hc : 1 ≤ c ∧ c ≤ 8) (hgd : Gd s s) (h1 : 1 ≤ k) (h2 : k ≤ 15) (hn : n ≤ 100) :
    Calls Tryd.prog 30 #[.agg s.row, .int .i64 k, .int .i64 n] w fun o w' => ∃ v0, o = .returned (.tuple #[v0, .int .i64 0]) ∧ SlA w' w.heap.size v0 n (btO k (cellsL a c) s) ∧ Below w.heap.size w w' := by
  have HC := Go.Lib.hid fun w hE => ckRi_ok s k n e w hE ho ⟨h1, h2⟩ ⟨by omega, by omega⟩
  have HBT := Go.Lib.hid fun w mt hm => ibaths_any s k n mt a c w hm ea ec ha hc hgd h1 h2 hn
  have zb := zero_ba
  clear hgd ea ec ha hc ho
  have P : Hid ((w.alloc (.cells (vrow 266 s.at) 35)).heap[w.heap.size]? = some (.cells (vrow 266 s.at) 35)) := heap_at _ _ _ (by simp)
  have hB : Hid (Below w.heap.size w (w.alloc (.cells (vrow 266 s.at) 35))) := ((Below.refl w.heap.size w).alloc (by simp <;> omega) _)
  go_enter Tryd.func30, Tryd.ntmps30
  go_wp2_with (first
    | go_skip | ((with_reducible refine wlAt 10 rfl ?_); refine wpList_loadall rfl 35 (.tmp 3) rfl _ rfl 266 s.at 35 _ Tryd.underlying35 rfl size_sheet P.out ?_) | (go_at_call 62; (refine (HC.out _ (hE.next hB.out)).mono ?_); rintro o w1 ⟨rfl, hb⟩; replace P := Go.Lib.hid (row_next hb P.out); replace hB := Go.Lib.hid (below_next hB.out hb); clear hb)
    | ((with_reducible refine wlAt 18 rfl ?_); refine wpList_loadall rfl 35 (.tmp 3) rfl _ rfl 266 s.at 35 _ Tryd.underlying35 rfl size_sheet P.out ?_)
    | ((with_reducible refine wlAt 20 rfl ?_); refine wpList_built rfl 89 [(0, .tmp 18), (1, .tmp 19)] rfl [(0, .agg (vrow 266 s.at)), (1, .int .i64 k)] (by rfl) _ (built_ba _ _) ?_)
    | ((with_reducible refine wlOp (.store 89 (.tmp 9) (.tmp 20)) rfl ?_); refine wpList_storeall rfl 89 (.tmp 9) (.tmp 20) rfl _ rfl 267 (baAt Sh.zero 0) (baAt s k) rfl 89 size_ba (heap_at _ _ _ rfl) (fun i _ => baAt_one _ _ i) ?_; rw [setRow_at _ _ _ _ _ rfl]; have M := Go.Lib.hid (heap_at w1 (.cells (vrow 267 (baAt s k)) 89) _ rfl); have hbs := hB.out.size; replace hB := Go.Lib.hid (hB.out.alloc hbs (.cells (vrow 267 (baAt s k)) 89)); clear P; generalize w1.heap.size = mb at M hbs ⊢; generalize w1.alloc _ = w2 at M hB ⊢)
    | (go_at_call 73; (refine (HBT.out _ _ M.out).mono ?_); rintro o w3 ⟨v, rfl, hO, hg⟩; have hsz2 := hB.out.size; replace hB := Go.Lib.hid (hB.out.grown hg hB.out.size (fun q hq => by cases hq; omega)); clear hg M))
  go_ret2
  exact ⟨_, rfl, hO.sla (by omega), hB.out⟩
end Go.Proofs.YtgbhchmpeioaiaaDoor
