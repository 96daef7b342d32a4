import Derived.Laws.AppendOwn
import Derived.Laws.Append
import Derived.OwnWalk
import Derived.Deep.AppendLies
import Derived.Deep.RegionHeld3
import Derived.Test.YtgbhchmpeioaiaaDoorRinU1
import Derived.Test.YtgbhchmpeioaiaaDoorRinO
namespace Go.Proofs.YtgbhchmpeioaiaaDoor
open Go.RowKit
set_option maxRecDepth 100000
set_option linter.unusedVariables false
set_option linter.unusedSimpArgs false
theorem info_a3 : (Tryd.prog.info? 32).map (fun i => (i.zero, i.size, i.bytes)) = some (some (.agg #[.int .i64 0, .int .i64 0, .int .i64 0]), 3, 24) := by kernel_rfl
/-- what rinse i takes out -/
def btO (k : Int) (L : List Sp8) (s : Sh) (i : Nat) : Nat → Int := (rinS k ((rnds k L ⟨s, 0, fun _ => 0⟩ i).s, fun _ => 0) L).2
/-- the baths, as they lie -/
def btV (k : Int) (L : List Sp8) (s : Sh) : Nat → List Value
  | 0 => []
  | n + 1 => btV k L s n ++ [.int .i64 (btO k L s n 0), .int .i64 (btO k L s n 1), .int .i64 (btO k L s n 2)]
theorem btV_len (k : Int) (L : List Sp8) (s : Sh) : ∀ n, (btV k L s n).length = n * 3
  | 0 => rfl
  | n + 1 => by simp only [btV, List.length_append, btV_len k L s n, List.length_cons, List.length_nil]; omega
theorem btV_get (k : Int) (L : List Sp8) (s : Sh) : ∀ n i m, i < n → m < 3 → (btV k L s n)[i * 3 + m]? = some (.int .i64 (btO k L s i m))
  | 0, i, m, hi, _ => by omega
  | n + 1, i, m, hi, hm => by
    show (btV k L s n ++ _)[i * 3 + m]? = _
    by_cases h : i < n
    · rw [List.getElem?_append_left (by rw [btV_len]; omega)]; exact btV_get k L s n i m h hm
    · obtain rfl : i = n := by omega
      rw [List.getElem?_append_right (by rw [btV_len]; omega), btV_len, show i * 3 + m - i * 3 = m by omega]
      have : m = 0 ∨ m = 1 ∨ m = 2 := by omega
      rcases this with rfl | rfl | rfl <;> rfl
/-- all that rinse i takes out -/
def btS (k : Int) (L : List Sp8) (s : Sh) (i : Nat) : Int := btO k L s i 0 + btO k L s i 1 + btO k L s i 2
theorem btO_bd {s : Sh} (hgd : Gd s s) {k : Int} (h1 : 1 ≤ k) (h2 : k ≤ 15) (L : List Sp8) (i m : Nat) (hm : m < 3) : 0 ≤ btO k L s i m ∧ btO k L s i m ≤ 64000 := by
  have hr := (RUG.all hgd h1 h2 L i).gd
  have := (RinG.cells h1 h2 L (RinG.start (Gd.start hr.ok hr.ink hr.fit) fun _ => 0)).bd hm hr.ink
  unfold btO
  omega
/-- a slice of baths that is owned, with its row -/
structure Baths (W : World) (base : Nat) (v : Value) (k : Int) (L : List Sp8) (s : Sh) (n : Nat) : Prop where
  own : W.ownsRow base 32 3 v n (btV k L s n)
theorem Baths.row {W : World} {base : Nat} {v : Value} {k : Int} {L : List Sp8} {s : Sh} {n : Nat} (h : Baths W base v k L s n) (hn : 0 < n) : ∃ g cap f, v = .slice (some ⟨g, 0, none⟩) n cap ∧ base ≤ g ∧ n ≤ cap ∧ W.heap[g]? = some (.cells (vrow (cap * 3) f) 32) ∧ ∀ i m, i < n → m < 3 → f (i * 3 + m) = .int .i64 (btO k L s i m) := by
  rcases h.own.2 with ⟨_, hk, _⟩ | ⟨g, cap, cur, hv, hb, hg, hc, hl, hsz, ht⟩
  · omega
  · refine ⟨g, cap, fun i => cur.getD i undef, hv, hb, hc, ?_, fun i m hi hm => ?_⟩
    · rw [hg]
      congr 2
      apply Array.ext_getElem?
      intro i
      by_cases hi : i < cap * 3
      · rw [vrow_get _ _ _ hi, Array.getD_eq_getD_getElem?, Array.getElem?_eq_getElem (by omega)]; rfl
      · rw [vrow_none _ _ _ hi, Array.getElem?_eq_none (by omega)]
    · show cur.getD (i * 3 + m) undef = _
      have hu := btV_get k L s n i m hi hm
      rw [← ht, List.getElem?_take, if_pos (by omega)] at hu
      rw [Array.getD_eq_getD_getElem?]
      simp only [Array.getElem?_toList] at hu
      rw [hu]; rfl
theorem Baths.nil_cases {W : World} {base : Nat} {v : Value} {k : Int} {L : List Sp8} {s : Sh} (h : Baths W base v k L s 0) : ∃ b cap, v = .slice none 0 cap ∨ v = .slice (some ⟨b, 0, none⟩) 0 cap := by
  rcases h.own.2 with ⟨hv, _⟩ | ⟨g, cap, cur, hv, _⟩
  · exact ⟨0, 0, .inl hv⟩
  · exact ⟨g, cap, .inr hv⟩
set_option maxHeartbeats 4000000 in
theorem lbaths_any (s : Sh) (k : Int) (n a c : Nat) (w : World) (ea : s.wide = a) (ec : s.high = c) (ha : 1 ≤ a ∧ a ≤ 8) (hc : 1 ≤ c ∧ c ≤ 8) (hgd : Gd s s) (h1 : 1 ≤ k) (h2 : k ≤ 15) (hn : n ≤ 100) :
    Calls Tryd.prog 72 #[.agg s.row, .int .i64 k, .int .i64 n] w fun e w' => ∃ v, e = .returned v ∧ Baths w' (w.heap.size + 1) v k (cellsL a c) s n ∧ Below w.heap.size w w' := by
  obtain ⟨i0, hi, hz0, hz1, hz2⟩ := info_parts info_a3
  have HRUG := Go.Lib.hid fun i => RUG.all hgd h1 h2 (cellsL a c) i
  have HRN := Go.Lib.hid fun (V : RU) (hV : Gd s V.s) w b' hs => lrinse_any V.s b' a c k w hs (hV.wide.trans ea) (hV.high.trans ec) ha hc (Gd.start hV.ok hV.ink hV.fit) h1 h2
  generalize cellsL a c = L at *
  clear hgd
  have P0 : ((w.alloc (.cells (vrow 266 s.at) 35)).alloc (.cells #[] 32)).heap[w.heap.size]? = some (.cells (vrow 266 s.at) 35) := heap_past _ _ _ _ (by simp) (heap_at _ _ _ rfl)
  have O0 : ((w.alloc (.cells (vrow 266 s.at) 35)).alloc (.cells #[] 32)).ownsRow (w.heap.size + 1) 32 3 (.slice (some ⟨w.heap.size + 1, 0, none⟩) 0 0) 0 [] := by
    have h : ((w.alloc (.cells (vrow 266 s.at) 35)).alloc (.cells #[] 32)).ownsRow (w.heap.size + 1) 32 3 (.slice (some ⟨(w.alloc (.cells (vrow 266 s.at) 35)).heap.size, 0, none⟩) 0 0) 0 [] := World.ownsRow_made _ #[] 0 (by simp) (by decide) rfl
    rw [World.size_alloc] at h
    exact h
  have B0 : Below w.heap.size w ((w.alloc (.cells (vrow 266 s.at) 35)).alloc (.cells #[] 32)) := ((Below.refl _ _).alloc (Nat.le_refl _) _).alloc (by simp) _
  go_enter Tryd.func72, Tryd.ntmps72
  go_wp2
  generalize hW : ((w.alloc (.cells (vrow 266 s.at) 35)).alloc (.cells #[] 32)) = W0 at P0 O0 B0 ⊢
  clear hW
  go_loopw [7, 8] (fun v iv wr => ∃ q : Nat, q ≤ n ∧ iv = .int .i64 q ∧ wr.heap[w.heap.size]? = some (.cells (vrow 266 (rnds k L ⟨s, 0, fun _ => 0⟩ q).s.at) 35) ∧ wr.ownsRow (w.heap.size + 1) 32 3 v q (btV k L s q) ∧ Below w.heap.size w wr) (fun _ iv _ => n - (intOf iv).toNat)
  case atStart => exact ⟨0, by omega, rfl, P0, O0, B0⟩
  case round =>
    clear P0 O0 B0
    obtain ⟨q, hq, rfl, P, O, hB⟩ := hrel
    by_cases hlt : q < n
    · have hqI : (q : Int) < (n : Int) := by omega
      have hqd : decide ((q : Int) < (n : Int)) = true := by simpa using hqI
      have hst : rnds k L ⟨s, 0, fun _ => 0⟩ (q + 1) = rnd k L (rnds k L ⟨s, 0, fun _ => 0⟩ q) := rfl
      have hbv : btV k L s (q + 1) = btV k L s q ++ [.int .i64 (btO k L s q 0), .int .i64 (btO k L s q 1), .int .i64 (btO k L s q 2)] := rfl
      have hbo : btO k L s q = (rinS k ((rnds k L ⟨s, 0, fun _ => 0⟩ q).s, fun _ => 0) L).2 := rfl
      have HR0 := fun w hs => HRN.out (rnds k L ⟨s, 0, fun _ => 0⟩ q) (HRUG.out q).gd w w.heap.size hs
      have HRq := Go.Lib.hid fun w' hs => HRN.out (rnds k L ⟨s, 0, fun _ => 0⟩ q) (HRUG.out q).gd w' w.heap.size hs
      clear HR0
      have hsh : (rnds k L ⟨s, 0, fun _ => 0⟩ (q + 1)).s = (rinS k ((rnds k L ⟨s, 0, fun _ => 0⟩ q).s, fun _ => 0) L).1 := rfl
      have HSH := Go.Lib.hid hsh
      rw [hbo] at hbv
      have HBV := Go.Lib.hid hbv
      clear hst hbv hbo hsh
      generalize rinS k ((rnds k L ⟨s, 0, fun _ => 0⟩ q).s, fun _ => 0) L = T at *
      obtain ⟨T, oo⟩ := T
      dsimp only at HRq HBV HSH
      replace P := Go.Lib.hid P; replace O := Go.Lib.hid O; replace hB := Go.Lib.hid hB
      have hbl := btV_len k L s q
      go_wp2_with (first
        | go_skip
        | (go_at_call 61; (refine (HRq.out _ P.out).mono ?_); rintro e w1 ⟨he, hg, hp⟩; obtain rfl : e = .returned (.agg #[.int .i64 (oo 0), .int .i64 (oo 1), .int .i64 (oo 2)]) := he; replace O := Go.Lib.hid (O.out.kept hg (.inr (by have := O.out.lt; cases hv : Value.ownBlock _ with | none => simp | some z => have := (O.out.lt z hv).1; simp; omega))); replace hB := Go.Lib.hid (hB.out.grown hg hB.out.size (fun q hq => by cases hq; omega)); replace P := Go.Lib.hid hp; have hsz := hB.out.size; have hlt1 := row_lt hp; clear hg hp)
        | (at_builtin; refine wpList_append_own _ rfl (.tmp 15) (.tmp 18) 51 rfl (w.heap.size + 1) 32 i0 (.agg #[.int .i64 0, .int .i64 0, .int .i64 0]) 3 24 Tryd.underlying51 hi hz0 hz1 hz2 rfl (by decide) _ _ _ rfl (O.out.alloc _) ⟨w1.heap.size, 0, none⟩ 1 1 [.int .i64 (oo 0), .int .i64 (oo 1), .int .i64 (oo 2)] rfl rfl (World.news_of_block (heap_at _ _ _ rfl)) (by simp [Value.oneCell']) (by simp only [maxLen]; omega) (by omega) (by simp; omega) ?_; intro v' w2 hown' hgrow _))
      have B1 : Below w.heap.size w w2 := (hB.out.alloc hsz _).grown hgrow (by simp; omega) (fun q hq => by have := (O.out.lt q hq).1; omega)
      have P1 : w2.heap[w.heap.size]? = some (.cells (vrow 266 T.at) 35) := (hgrow.block w.heap.size (by simp; omega) (fun e => by have := (O.out.lt _ e.symm).1; omega)).trans (heap_past _ _ _ _ (row_lt P.out) P.out)
      go_roundw
      case rel => exact ⟨q + 1, by omega, by go_num, by rw [HSH.out]; exact P1, by rw [HBV.out]; exact hown', B1⟩
      case measure => simp [intOf]; omega
    · obtain rfl : q = n := by omega
      have hqd : decide ((q : Int) < (q : Int)) = false := by simp
      go_wp2
      go_ret
      exact ⟨_, rfl, ⟨O⟩, hB⟩
def cbIn (n b : Int) : Bool := (decide (0 ≤ n) && decide (n ≤ 100)) && decide (0 ≤ b)
set_option maxHeartbeats 4000000 in
theorem specCB_err (s : Sh) (k n b v : Int) (w : World) (hf : s.fit) (hc : bathC (okI s) k (cbIn n b) = v) (hv : v = 1 ∨ v = 2) : Calls Tryd.prog 34 #[.agg s.row, .int .i64 k, .int .i64 n, .int .i64 b] w fun o w' => o = .returned (.tuple #[.int .i64 0, .int .i64 v]) ∧ Below w.heap.size w w' := by
  have P : Hid ((w.alloc (.cells (vrow 266 s.at) 35)).heap[w.heap.size]? = some (.cells (vrow 266 s.at) 35)) := heap_at _ _ _ (by simp)
  have hB : Hid (Below w.heap.size w (w.alloc (.cells (vrow 266 s.at) 35))) := ((Below.refl w.heap.size w).alloc (by simp <;> omega) _)
  have HIN : Hid (∀ w, Calls Tryd.prog 71 #[.int .i64 n, .int .i64 0, .int .i64 100] w fun o w' => o = .returned (.bool (decide (0 ≤ n) && decide (n ≤ 100))) ∧ Below w.heap.size w w') := Go.Lib.hid fun w => by
    by_cases h : 0 ≤ n ∧ n ≤ 100
    · rw [decide_eq_true h.1, decide_eq_true h.2]; exact in_yes n 0 100 h.1 h.2 w
    · rw [show (decide (0 ≤ n) && decide (n ≤ 100)) = false by simp; omega]; exact in_no n 0 100 (by omega) w
  have HB := Go.Lib.hid fun v c hs => lbath_any s c k (cbIn n b) v hs hf
  rw [hc] at HB
  have hcb : cbIn n b = ((decide (0 ≤ n) && decide (n ≤ 100)) && decide (0 ≤ b)) := rfl
  rw [hcb] at HB
  clear hc hf hcb
  generalize (decide (0 ≤ n) && decide (n ≤ 100)) = d1 at *
  have hd2 : ∃ d2, d2 = decide (0 ≤ b) := ⟨_, rfl⟩
  obtain ⟨d2, hd2⟩ := hd2
  rw [← hd2] at HB
  have hge2 : decide (0 ≤ b) = d2 := hd2.symm
  clear hd2
  rcases hv with rfl | rfl
  all_goals
    cases d1 <;> cases d2
    all_goals
      go_enter Tryd.func34, Tryd.ntmps34
      go_wp2_with (first
        | go_skip
        | (go_at_call 71; (refine (HIN.out _).mono ?_); rintro o w1 ⟨rfl, hb⟩; replace P := Go.Lib.hid (row_next hb P.out); replace hB := Go.Lib.hid (below_next hB.out hb); clear hb)
        | (go_at_call 60; (refine (HB.out _ _ P.out).mono ?_); rintro o w2 ⟨rfl, hb⟩; replace P := Go.Lib.hid (row_next hb P.out); replace hB := Go.Lib.hid (below_next hB.out hb); clear hb))
      go_ret2
      exact ⟨rfl, hB.out⟩
/-- the first rinse that takes out at most b, of n: the answer -/
def cbA (jn n : Nat) : Value := if jn < n then .tuple #[.int .i64 jn, .int .i64 0] else .tuple #[.int .i64 0, .int .i64 6]
theorem add3_norm {x y z : Int} (h1 : 0 ≤ x ∧ x ≤ 64000) (h2 : 0 ≤ y ∧ y ≤ 64000) (h3 : 0 ≤ z ∧ z ≤ 64000) : IntKind.i64.wrap (x + y) = x + y ∧ IntKind.i64.wrap (x + y + z) = x + y + z :=
  ⟨IntWalk.i64_in (x + y) (by omega), IntWalk.i64_in (x + y + z) (by omega)⟩
set_option maxHeartbeats 8000000 in
theorem specCB_ok (s : Sh) (k b : Int) (n jn a c : Nat) (w : World) (hf : s.fit) (hc0 : bathC (okI s) k (cbIn n b) = 0) (ea : s.wide = a) (ec : s.high = c) (ha : 1 ≤ a ∧ a ≤ 8) (hc : 1 ≤ c ∧ c ≤ 8) (hgd : Gd s s) (h1 : 1 ≤ k) (h2 : k ≤ 15) (hn : n ≤ 100) (hb0 : 0 ≤ b) (hj : jn ≤ n) (hj1 : jn < n → btS k (cellsL a c) s jn ≤ b) (hj2 : ∀ i, i < jn → b < btS k (cellsL a c) s i) :
    Calls Tryd.prog 34 #[.agg s.row, .int .i64 k, .int .i64 n, .int .i64 b] w fun o w' => o = .returned (cbA jn n) ∧ Below w.heap.size w w' := by
  have P : Hid ((w.alloc (.cells (vrow 266 s.at) 35)).heap[w.heap.size]? = some (.cells (vrow 266 s.at) 35)) := heap_at _ _ _ (by simp)
  have hB : Hid (Below w.heap.size w (w.alloc (.cells (vrow 266 s.at) 35))) := ((Below.refl w.heap.size w).alloc (by simp <;> omega) _)
  have HIN := Go.Lib.hid fun w => in_yes n 0 100 (by omega) (by omega) w
  have HB := Go.Lib.hid fun v c hs => lbath_any s c k (cbIn n b) v hs hf
  rw [hc0] at HB
  have hcb : cbIn n b = true := by simp [cbIn, hb0]; omega
  rw [hcb] at HB
  have HBT := Go.Lib.hid fun w => lbaths_any s k n a c w ea ec ha hc hgd h1 h2 hn
  have HBD := Go.Lib.hid fun i m hm => btO_bd hgd h1 h2 (cellsL a c) i m hm
  have HJ2 := Go.Lib.hid hj2; have HJ1 := Go.Lib.hid hj1
  have hge2 : decide (0 ≤ b) = true := by simpa using hb0
  clear hc0 hf hcb hgd hj1 hj2 ea ec ha hc
  generalize cellsL a c = L at *
  go_enter Tryd.func34, Tryd.ntmps34
  go_wp2_with (first
    | go_skip
    | (go_at_call 71; (refine (HIN.out _).mono ?_); rintro o w1 ⟨rfl, hb⟩; replace P := Go.Lib.hid (row_next hb P.out); replace hB := Go.Lib.hid (below_next hB.out hb); clear hb)
    | (go_at_call 60; (refine (HB.out _ _ P.out).mono ?_); rintro o w2 ⟨rfl, hb⟩; replace P := Go.Lib.hid (row_next hb P.out); replace hB := Go.Lib.hid (below_next hB.out hb); clear hb)
    | ((with_reducible refine wlAt 24 rfl ?_); refine wpList_loadall rfl 35 (.tmp 4) rfl _ rfl 266 s.at 35 _ Tryd.underlying35 rfl size_sheet P.out ?_)
    | (go_at_call 72; (refine (HBT.out _).mono ?_); rintro o w3 ⟨v, rfl, hO, hb⟩; replace hB := Go.Lib.hid (below_next hB.out hb); clear hb P))
  by_cases hn0 : n = 0
  · subst hn0
    obtain rfl : jn = 0 := by omega
    obtain ⟨b0, cap0, hsv⟩ := hO.nil_cases
    have hcA : cbA 0 0 = .tuple #[.int .i64 0, .int .i64 6] := rfl
    clear hO HJ1 HJ2 HBD HBT
    replace hcA := Go.Lib.hid hcA
    rcases hsv with rfl | rfl
    all_goals
      go_loopw [12] (fun iv wr => iv = .int .i64 0 ∧ Below w.heap.size w wr) (fun _ _ => 0)
      case atStart => exact ⟨rfl, hB.out⟩
      case round =>
        obtain ⟨rfl, hB1⟩ := hrel
        go_wp2
        go_ret2
        exact ⟨by rw [hcA.out]; rfl, hB1⟩
  · obtain ⟨g, cap, f, rfl, hg, hcap, hG2, hf2⟩ := hO.row (by omega)
    have G := Go.Lib.hid hG2; have HF := Go.Lib.hid hf2
    clear hO hG2 hf2
    obtain ⟨wo, hwo⟩ : ∃ wo : World, wo = w3 := ⟨_, rfl⟩
    rw [← hwo] at hB G ⊢
    clear hwo w3
    go_loopw [12] (fun iv wr => ∃ q : Nat, q ≤ jn ∧ iv = .int .i64 q ∧ wr.heap[g]? = some (.cells (vrow (cap * 3) f) 32) ∧ Below w.heap.size w wr) (fun iv _ => n + 1 - (intOf iv).toNat)
    case atStart => exact ⟨0, by omega, rfl, G.out, hB.out⟩
    case round =>
      clear G hB
      obtain ⟨q, hq, rfl, G, hB⟩ := hrel
      replace G := Go.Lib.hid G; replace hB := Go.Lib.hid hB
      by_cases hlt : q < n
      · have hqI : (q : Int) < (n : Int) := by omega
        have hq0 : (0 : Int) ≤ (q : Int) := by omega
        have hqd : decide ((q : Int) < (n : Int)) = true := by simpa using hqI
        obtain ⟨z0, z1⟩ := add3_norm (HBD.out q 0 (by omega)) (HBD.out q 1 (by omega)) (HBD.out q 2 (by omega))
        have e0 := HF.out q 0 hlt (by omega)
        have e1 := HF.out q 1 hlt (by omega)
        have e2 := HF.out q 2 hlt (by omega)
        rw [Nat.add_zero] at e0
        have E0 := Go.Lib.hid e0; have E1 := Go.Lib.hid e1; have E2 := Go.Lib.hid e2; have Z0 := Go.Lib.hid z0; have Z1 := Go.Lib.hid z1
        have hsm : btO k L s q 0 + btO k L s q 1 + btO k L s q 2 = btS k L s q := rfl
        have HSM := Go.Lib.hid hsm
        clear e0 e1 e2 z0 z1 hsm
        go_wp2
        refine wp_region_still_lit (by kernel_rfl) (by kernel_rfl) ?_
        simp only [World.drew_eq]
        repeat (first
          | (refine wpStill_load1 rfl 2 (.tmp 37) rfl g (q * 3) rfl (cap * 3) f _ _ Tryd.underlying2 rfl G.out (by omega) ?_; rw [E0.out]; simp only [Act.put, List.setIfInBounds_toArray, List.set_cons_succ, List.set_cons_zero])
          | (refine wpStill_load1 rfl 2 (.tmp 42) rfl g (q * 3 + 1) rfl (cap * 3) f _ _ Tryd.underlying2 rfl G.out (by omega) ?_; rw [E1.out]; simp only [Act.put, List.setIfInBounds_toArray, List.set_cons_succ, List.set_cons_zero])
          | (refine wpStill_load1 rfl 2 (.tmp 48) rfl g (q * 3 + 2) rfl (cap * 3) f _ _ Tryd.underlying2 rfl G.out (by omega) ?_; rw [E2.out]; simp only [Act.put, List.setIfInBounds_toArray, List.set_cons_succ, List.set_cons_zero])
          | still_step
          | (refine wpStill_step (fun K hK => ?_); go_simp; simp only [hqI, if_true]; go_simp; refine hK _ ?_; clear hK K))
        refine wpStill_nil ?_
        replace G := Go.Lib.hid (drwS G.out); replace hB := Go.Lib.hid hB.out.drew
        generalize World.drew _ = w5 at G hB ⊢
        rw [Z0.out, Z1.out, HSM.out]
        by_cases hqj : q < jn
        · have hgt := HJ2.out q hqj
          have hdd : decide (btS k L s q ≤ b) = false := by simpa using hgt
          rw [hdd]
          go_wp2
          go_roundw
          case rel => exact ⟨q + 1, by omega, by go_num, G.out, hB.out⟩
          case measure => simp [intOf]; omega
        · obtain rfl : q = jn := by omega
          have hle := HJ1.out hlt
          have hdd : decide (btS k L s q ≤ b) = true := by simpa using hle
          have hcA : cbA q n = .tuple #[.int .i64 q, .int .i64 0] := if_pos hlt
          have HCA := Go.Lib.hid hcA
          rw [hdd]
          clear hcA
          go_wp2
          go_ret2
          exact ⟨by rw [HCA.out]; rfl, hB.out⟩
      · obtain rfl : q = n := by omega
        obtain rfl : jn = q := by omega
        have hqd : decide ((jn : Int) < (jn : Int)) = false := by simp
        have hcA : cbA jn jn = .tuple #[.int .i64 0, .int .i64 6] := if_neg (by omega)
        have HCA := Go.Lib.hid hcA
        clear hcA
        go_wp2
        go_ret2
        exact ⟨by rw [HCA.out]; rfl, hB.out⟩
end Go.Proofs.YtgbhchmpeioaiaaDoor
