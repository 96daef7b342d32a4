import Derived.Test.YtfgcpiipndhllaaDoorDrA
import Derived.Test.YtfgcpiipndhllaaDoorCov
import Derived.Test.YtfgcpiipndhllaaDoorPicS
import Derived.Test.YtfgcpiipndhllaaDoorChos
import Derived.Test.YtfgcpiipndhllaaDoorSlPs
import Derived.Test.YtfgcpiipndhllaaDoorToDrop
namespace Go.Proofs.YtfgcpiipndhllaaDoor
open Go.RowKit
set_option maxRecDepth 100000
set_option linter.unusedVariables false
set_option linter.unusedSimpArgs false
/-- what a place shows -/
def inkQ (P : Pic) (q : Sp8) : Int := P.ink (8 * q.1.2 + q.1.1)
/-- a step of peelableAt: the number seen so far (0: none), whether a cell is open -/
def pst (P : Pic) (st : Option (Int × Bool)) (q : Sp8) : Option (Int × Bool) :=
  match st with
  | none => none
  | some (m, fr) => if inkQ P q = 4 then some (m, true) else if inkQ P q = 0 ∨ (m ≠ 0 ∧ inkQ P q ≠ m) then none else some (inkQ P q, fr)
def pks (P : Pic) (L : List Sp8) : Option (Int × Bool) := L.foldl (pst P) (some (0, false))
theorem pks_app (P : Pic) (L : List Sp8) (q : Sp8) : pks P (L ++ [q]) = pst P (pks P L) q := by unfold pks; rw [List.foldl_append]; rfl
/-- the model's l07Peels over the cells that a drop covers; open cells show 4 -/
def lpA (P : Pic) (n : Int) (L : List Sp8) : Bool := L.all fun q => decide (inkQ P q = 4) || decide (inkQ P q = n + 1)
def lpB (P : Pic) (L : List Sp8) : Bool := L.any fun q => !decide (inkQ P q = 4)
def lpP (P : Pic) (n : Int) (L : List Sp8) : Bool := lpA P n L && lpB P L
theorem lpA_app (P : Pic) (n : Int) (L : List Sp8) (q : Sp8) : lpA P n (L ++ [q]) = (lpA P n L && (decide (inkQ P q = 4) || decide (inkQ P q = n + 1))) := by unfold lpA; rw [List.all_append]; simp
theorem lpB_app (P : Pic) (L : List Sp8) (q : Sp8) : lpB P (L ++ [q]) = (lpB P L || !decide (inkQ P q = 4)) := by unfold lpB; rw [List.any_append]; simp
/-- what the state says -/
def psay (P : Pic) (L : List Sp8) : Option (Int × Bool) → Prop
  | none => ∀ n : Int, 0 ≤ n → n ≤ 2 → lpA P n L = false
  | some (m, _) => (m = 0 ∧ lpB P L = false) ∨ (m ≠ 0 ∧ m ≠ 4 ∧ lpB P L = true ∧ ∀ n : Int, 0 ≤ n → n ≤ 2 → (lpA P n L = decide (m = n + 1)))
theorem lpA_no {P : Pic} {L : List Sp8} (h : lpB P L = false) (n : Int) : lpA P n L = true := by
  unfold lpA
  rw [List.all_eq_true]
  intro q hq
  unfold lpB at h
  rw [List.any_eq_false] at h
  have := h q hq
  simp only [Bool.not_eq_true', decide_eq_false_iff_not, Decidable.not_not] at this
  simp [this]
theorem pks_say (P : Pic) : ∀ n (L : List Sp8), L.length = n → psay P L (pks P L) := by
  intro n
  induction n with
  | zero => intro L hl; obtain rfl := List.length_eq_zero_iff.1 hl; exact .inl ⟨rfl, rfl⟩
  | succ n ih =>
    intro L hl
    obtain ⟨qs, q, rfl⟩ : ∃ qs q, L = qs ++ [q] := ⟨L.dropLast, L.getLast (by intro e; simp [e] at hl), (List.dropLast_concat_getLast _).symm⟩
    have h := ih qs (by simpa using hl)
    rw [pks_app]
    cases hp : pks P qs with
    | none =>
      rw [hp] at h
      intro k h0 h2
      rw [lpA_app, h k h0 h2]; rfl
    | some st =>
      obtain ⟨m, fr⟩ := st
      rw [hp] at h
      unfold pst
      simp only
      by_cases h4 : inkQ P q = 4
      · rw [if_pos h4]
        rcases h with ⟨hm, hb⟩ | ⟨hm, hm4, hb, ha⟩
        · exact .inl ⟨hm, by rw [lpB_app, hb, decide_eq_true h4]; rfl⟩
        · refine .inr ⟨hm, hm4, by rw [lpB_app, hb]; rfl, fun k h0 h2 => ?_⟩
          rw [lpA_app, ha k h0 h2, decide_eq_true h4]; simp
      · rw [if_neg h4]
        by_cases hz : inkQ P q = 0 ∨ (m ≠ 0 ∧ inkQ P q ≠ m)
        · rw [if_pos hz]
          intro k h0 h2
          rw [lpA_app, decide_eq_false h4, Bool.false_or]
          rcases hz with hz | ⟨hm0, hne⟩
          · rw [decide_eq_false (by omega), Bool.and_false]
          · rcases h with ⟨hm, _⟩ | ⟨_, _, _, ha⟩
            · exact absurd hm hm0
            · rw [ha k h0 h2]
              by_cases e : m = k + 1
              · rw [decide_eq_false (show ¬ inkQ P q = k + 1 by omega), Bool.and_false]
              · rw [decide_eq_false e, Bool.false_and]
        · rw [if_neg hz]
          have hnz : inkQ P q ≠ 0 := fun e => hz (.inl e)
          refine .inr ⟨hnz, h4, by rw [lpB_app, decide_eq_false h4]; simp, fun k h0 h2 => ?_⟩
          rw [lpA_app, decide_eq_false h4, Bool.false_or]
          rcases h with ⟨hm, hb⟩ | ⟨hm, _, _, ha⟩
          · rw [lpA_no hb, Bool.true_and]
          · have he : inkQ P q = m := Classical.byContradiction fun e => hz (.inr ⟨hm, e⟩)
            rw [ha k h0 h2, he, Bool.and_self]
/-- the ink that can be peeled at a cell, if any -/
def pinkO (P : Pic) (L : List Sp8) : Option (Int × Bool) := match pks P L with
  | none => none
  | some (m, fr) => if m = 0 then none else some (m - 1, fr)
theorem lpP_eq (P : Pic) (L : List Sp8) (n : Int) (h0 : 0 ≤ n) (h2 : n ≤ 2) : lpP P n L = (match pinkO P L with | none => false | some (k, _) => decide (k = n)) := by
  have h := pks_say P L.length L rfl
  unfold lpP pinkO
  cases hp : pks P L with
  | none => rw [hp] at h; simp [h n h0 h2]
  | some st =>
    obtain ⟨m, fr⟩ := st
    rw [hp] at h
    simp only
    rcases h with ⟨hm, hb⟩ | ⟨hm, hm4, hb, ha⟩
    · rw [if_pos hm, hb, Bool.and_false]
    · rw [if_neg hm, ha n h0 h2, hb, Bool.and_true]
      simp only
      by_cases e : m = n + 1
      · rw [decide_eq_true e, decide_eq_true (by omega)]
      · rw [decide_eq_false e, decide_eq_false (by omega)]
end Go.Proofs.YtfgcpiipndhllaaDoor
namespace Go.Proofs.YtfgcpiipndhllaaDoor
open Go.RowKit
set_option linter.unusedVariables false
set_option linter.unusedSimpArgs false
theorem pst_none (P : Pic) (L : List Sp8) : L.foldl (pst P) none = none := by
  induction L with
  | nil => rfl
  | cons q L ih => exact ih
theorem pks_none {P : Pic} {L : List Sp8} (k : Nat) (h : pks P (L.take k) = none) : pks P L = none := by
  have e : L = L.take k ++ L.drop k := (List.take_append_drop k L).symm
  unfold pks at h ⊢
  rw [e, List.foldl_append, h, pst_none]
/-- the value that peelableAt returns -/
def pkV (x y : Int) : Option (Int × Bool) → Value
  | none => .nilIface
  | some (n, true) => .iface 273 (.agg (vrow 3 (drAt x y n)))
  | some (n, false) => .iface 205 (.agg (vrow 3 (drAt x y n)))
set_option maxRecDepth 100000 in
set_option maxHeartbeats 4000000 in
theorem peelAt_any (p : Pic) (a c x y : Nat) (w : World) (hk4 : ∀ i, i < 64 → 0 ≤ p.ink i ∧ p.ink i ≤ 4) (ea : p.wide = a) (ec : p.high = c) (ha : a ≤ 8) (hc : c ≤ 8) (hx : x < 8) (hy : y < 8) :
    Calls Tryd.prog 178 #[.agg p.row, .agg (vrow 2 (spAt x y))] w fun e w' => e = .returned (pkV x y (pinkO p (cov a c x y))) ∧ Below w.heap.size w w' := by
  have HCV := Go.Lib.hid fun w => icov_any p a c x y w ea ec ha hc hx hy
  have hcl : (cov a c x y).length ≤ 5 := covT_len _ _ _ _ _
  have HPK := Go.Lib.hid (show pinkO p (cov a c x y) = match pks p (cov a c x y) with | none => none | some (m, fr) => if m = 0 then none else some (m - 1, fr) from rfl)
  generalize pinkO p (cov a c x y) = PK at *
  generalize cov a c x y = L at *
  have P : Hid (((w.alloc (.cells (vrow 66 p.at) 61)).alloc (.cells (vrow 2 (spAt x y)) 33)).heap[w.heap.size]? = some (.cells (vrow 66 p.at) 61)) := (heap_past _ _ _ _ (by simp <;> omega) (heap_at _ _ _ (by simp)))
  have R : Hid (((w.alloc (.cells (vrow 66 p.at) 61)).alloc (.cells (vrow 2 (spAt x y)) 33)).heap[w.heap.size + 1]? = some (.cells (vrow 2 (spAt x y)) 33)) := (heap_at _ _ _ (by simp))
  have hB : Hid (Below w.heap.size w ((w.alloc (.cells (vrow 66 p.at) 61)).alloc (.cells (vrow 2 (spAt x y)) 33))) := Go.Lib.hid (((Below.refl w.heap.size w).alloc (by simp <;> omega) _).alloc (by simp <;> omega) _)
  clear ea ec
  go_enter Tryd.func178, Tryd.ntmps178
  go_wp2_with (first
    | go_skip
    | ((with_reducible refine wlAt 10 rfl ?_); refine wpList_ldm 61 (.tmp 2) rfl (by first | exact want_n rfl | exact want_g _ _ _ rfl rfl rfl) (w.heap.size) _ rfl 66 66 p.at _ rw_pic size_pic P.out (by omega) ?_; rw [pic_row])
    | ((with_reducible refine wlAt 11 rfl ?_); refine wpList_ldm 33 (.tmp 3) rfl (by first | exact want_n rfl | exact want_g _ _ _ rfl rfl rfl) (w.heap.size + 1) _ rfl 2 2 (spAt x y) _ rw_spot size_spot R.out (by omega) ?_; rw [sp_row])
    | (go_at_call 177; (refine (HCV.out _).mono ?_); rintro o w1 ⟨v, rfl, hO, hb⟩; replace P := Go.Lib.hid (row_next hb P.out); replace R := Go.Lib.hid (row_next hb R.out); replace hB := Go.Lib.hid (below_next hB.out hb); clear hb; obtain ⟨ao, cc, rfl, hr⟩ := own_po hO; clear hO))
  have P0 := P.out; have R0 := R.out; have B0 := hB.out
  clear P R hB HCV
  go_loopw [5, 6, 14] (fun nm fr iv wr => ∃ k : Nat, ∃ m : Int, ∃ b : Bool, k ≤ L.length ∧ iv = .int .i64 k ∧ nm = .int .u8 m ∧ fr = .bool b ∧ pks p (L.take k) = some (m, b) ∧ (0 ≤ m ∧ m ≤ 3) ∧ wr.heap[w.heap.size]? = some (.cells (vrow 66 p.at) 61) ∧ wr.heap[w.heap.size + 1]? = some (.cells (vrow 2 (spAt x y)) 33) ∧ (∀ (g : Nat) X, w1.heap[g]? = some X → wr.heap[g]? = some X) ∧ Below w.heap.size w wr) (fun _ _ iv _ => L.length - (intOf iv).toNat)
  case atStart => exact ⟨0, 0, false, by omega, rfl, rfl, rfl, rfl, by omega, P0, R0, fun _ _ h => h, B0⟩
  case round =>
    clear P0 R0 B0
    obtain ⟨k, m, b, hk, rfl, rfl, rfl, hA, hm, P, R, hKp, hB⟩ := hrel
    by_cases hlt : k < L.length
    · rcases hr with h0 | ⟨g, N, f, rfl, hg, hN, hrow, hf2⟩
      · omega
      have G := Go.Lib.hid (hKp g _ hrow)
      have hv := hf2 k hlt
      obtain ⟨⟨⟨i, j⟩, hi8, hj8⟩, hp⟩ : ∃ q, L[k]'hlt = q := ⟨_, rfl⟩
      have hap := pks_app p (L.take k) ⟨(i, j), hi8, hj8⟩
      rw [← show L.take (k + 1) = L.take k ++ [⟨(i, j), hi8, hj8⟩] by rw [List.take_succ_eq_append_getElem hlt, hp], hA] at hap
      have hst : pst p (some (m, b)) ⟨(i, j), hi8, hj8⟩ = if p.ink (8 * j + i) = 4 then some (m, true) else if p.ink (8 * j + i) = 0 ∨ (m ≠ 0 ∧ p.ink (8 * j + i) ≠ m) then none else some (p.ink (8 * j + i), b) := rfl
      rw [hst] at hap
      have hv2 : vrow 2 (fun q => f (k * 2 + q)) = vrow 2 (spAt i j) := by rw [hv]; simp only [lx, ly, hlt, dite_true, hp]
      have HV2 := Go.Lib.hid hv2
      replace hi8 : i < 8 := hi8
      replace hj8 : j < 8 := hj8
      have hvr := hk4 (8 * j + i) (by omega)
      have HS := Go.Lib.hid fun w => shown_any p i j hi8 hj8 w
      clear hv hv2 hf2 hp hrow hst hA
      have hno := pks_none (P := p) (L := L) (k + 1)
      generalize p.ink (8 * j + i) = vk at *
      replace P := Go.Lib.hid P; replace R := Go.Lib.hid R; replace hB := Go.Lib.hid hB; replace hKp := Go.Lib.hid hKp
      have hkI : (k : Int) < (L.length : Int) := by omega
      have hk0 : (0 : Int) ≤ (k : Int) := by omega
      have hkd : decide ((k : Int) < (L.length : Int)) = true := by simpa using hkI
      by_cases h4 : vk = 4
      · rw [if_pos h4] at hap
        have HN := Go.Lib.hid hap
        have hd4 : (vk == 4) = true := by simpa using h4
        clear hap hno h4 hvr
        go_wp2_with (first
          | go_skip
          | ((with_reducible refine wlAt 17 rfl ?_); refine wpList_loadmid rfl 33 (.tmp 16) rfl g (k * 2) rfl N 2 f 33 _ Tryd.underlying33 rfl size_spot G.out (by omega) ?_; rw [HV2.out])
          | ((with_reducible refine wlOp (.store 33 (.tmp 8) (.tmp 17)) rfl ?_); refine wpList_storeall rfl 33 (.tmp 8) (.tmp 17) rfl _ rfl 2 (spAt 0 0) (spAt i j) rfl 33 size_spot (heap_at _ _ _ rfl) (fun i _ => spAt_one _ _ i) ?_; rw [setRow_at _ _ _ _ _ rfl]; have X := Go.Lib.hid (heap_at wr (.cells (vrow 2 (spAt i j)) 33) _ rfl); replace P := Go.Lib.hid (heap_past wr (.cells (vrow 2 (spAt i j)) 33) _ _ (row_lt P.out) P.out); replace R := Go.Lib.hid (heap_past wr (.cells (vrow 2 (spAt i j)) 33) _ _ (row_lt R.out) R.out); replace hKp := Go.Lib.hid (fun (g : Nat) X (h : w1.heap[g]? = some X) => heap_past wr (.cells (vrow 2 (spAt i j)) 33) _ _ (row_lt (hKp.out g X h)) (hKp.out g X h)); replace hB := Go.Lib.hid (hB.out.alloc hB.out.size (.cells (vrow 2 (spAt i j)) 33)); clear G; obtain ⟨xb, hxb⟩ : ∃ xb, wr.heap.size = xb := ⟨_, rfl⟩; rw [hxb] at X ⊢; obtain ⟨Wx, hWx⟩ : ∃ Wx, wr.alloc (.cells (vrow 2 (spAt i j)) 33) = Wx := ⟨_, rfl⟩; rw [hWx] at P R X hB hKp ⊢; clear hxb hWx)
          | ((with_reducible refine wlAt 18 rfl ?_); refine wpList_ldm 61 (.tmp 2) rfl (by first | exact want_n rfl | exact want_g _ _ _ rfl rfl rfl) (w.heap.size) _ rfl 66 66 p.at _ rw_pic size_pic P.out (by omega) ?_; rw [pic_row])
          | ((with_reducible refine wlAt 19 rfl ?_); refine wpList_ldm 33 (.tmp 8) rfl (by first | exact want_n rfl | exact want_g _ _ _ rfl rfl rfl) (xb) _ rfl 2 2 (spAt i j) _ rw_spot size_spot X.out (by omega) ?_; rw [sp_row])
          | (go_at_call 179; (refine (HS.out _).mono ?_); rintro o w2 ⟨rfl, hb⟩; clear X; replace P := Go.Lib.hid (row_next hb P.out); replace R := Go.Lib.hid (row_next hb R.out); replace hB := Go.Lib.hid (below_next hB.out hb); replace hKp := Go.Lib.hid (fun (g : Nat) X (h : w1.heap[g]? = some X) => row_next hb (hKp.out g X h)); clear hb))
        go_roundw
        case rel => exact ⟨k + 1, _, _, by omega, by go_num, rfl, rfl, HN.out, by omega, P.out, R.out, hKp.out, hB.out⟩
        case measure => simp [intOf]; omega
      · rw [if_neg h4] at hap
        have hd4 : (vk == 4) = false := by simpa using h4
        by_cases hz : vk = 0
        · rw [if_pos (.inl hz)] at hap
          have HN := Go.Lib.hid (hno hap)
          have hd0 : (vk == 0) = true := by simpa using hz
          clear hap hno h4 hvr hz
          go_wp2_with (first
            | go_skip
            | ((with_reducible refine wlAt 17 rfl ?_); refine wpList_loadmid rfl 33 (.tmp 16) rfl g (k * 2) rfl N 2 f 33 _ Tryd.underlying33 rfl size_spot G.out (by omega) ?_; rw [HV2.out])
            | ((with_reducible refine wlOp (.store 33 (.tmp 8) (.tmp 17)) rfl ?_); refine wpList_storeall rfl 33 (.tmp 8) (.tmp 17) rfl _ rfl 2 (spAt 0 0) (spAt i j) rfl 33 size_spot (heap_at _ _ _ rfl) (fun i _ => spAt_one _ _ i) ?_; rw [setRow_at _ _ _ _ _ rfl]; have X := Go.Lib.hid (heap_at wr (.cells (vrow 2 (spAt i j)) 33) _ rfl); replace P := Go.Lib.hid (heap_past wr (.cells (vrow 2 (spAt i j)) 33) _ _ (row_lt P.out) P.out); replace R := Go.Lib.hid (heap_past wr (.cells (vrow 2 (spAt i j)) 33) _ _ (row_lt R.out) R.out); replace hKp := Go.Lib.hid (fun (g : Nat) X (h : w1.heap[g]? = some X) => heap_past wr (.cells (vrow 2 (spAt i j)) 33) _ _ (row_lt (hKp.out g X h)) (hKp.out g X h)); replace hB := Go.Lib.hid (hB.out.alloc hB.out.size (.cells (vrow 2 (spAt i j)) 33)); clear G; obtain ⟨xb, hxb⟩ : ∃ xb, wr.heap.size = xb := ⟨_, rfl⟩; rw [hxb] at X ⊢; obtain ⟨Wx, hWx⟩ : ∃ Wx, wr.alloc (.cells (vrow 2 (spAt i j)) 33) = Wx := ⟨_, rfl⟩; rw [hWx] at P R X hB hKp ⊢; clear hxb hWx)
            | ((with_reducible refine wlAt 18 rfl ?_); refine wpList_ldm 61 (.tmp 2) rfl (by first | exact want_n rfl | exact want_g _ _ _ rfl rfl rfl) (w.heap.size) _ rfl 66 66 p.at _ rw_pic size_pic P.out (by omega) ?_; rw [pic_row])
            | ((with_reducible refine wlAt 19 rfl ?_); refine wpList_ldm 33 (.tmp 8) rfl (by first | exact want_n rfl | exact want_g _ _ _ rfl rfl rfl) (xb) _ rfl 2 2 (spAt i j) _ rw_spot size_spot X.out (by omega) ?_; rw [sp_row])
            | (go_at_call 179; (refine (HS.out _).mono ?_); rintro o w2 ⟨rfl, hb⟩; clear X; replace P := Go.Lib.hid (row_next hb P.out); replace R := Go.Lib.hid (row_next hb R.out); replace hB := Go.Lib.hid (below_next hB.out hb); replace hKp := Go.Lib.hid (fun (g : Nat) X (h : w1.heap[g]? = some X) => row_next hb (hKp.out g X h)); clear hb))
          go_ret
          exact ⟨by rw [HPK.out, HN.out]; rfl, hB.out⟩
        · have hd0 : (vk == 0) = false := by simpa using hz
          by_cases hm0 : m = 0
          · rw [if_neg (by omega)] at hap
            have HN := Go.Lib.hid hap
            clear hap hno
            subst hm0
            go_wp2_with (first
              | go_skip
              | ((with_reducible refine wlAt 17 rfl ?_); refine wpList_loadmid rfl 33 (.tmp 16) rfl g (k * 2) rfl N 2 f 33 _ Tryd.underlying33 rfl size_spot G.out (by omega) ?_; rw [HV2.out])
              | ((with_reducible refine wlOp (.store 33 (.tmp 8) (.tmp 17)) rfl ?_); refine wpList_storeall rfl 33 (.tmp 8) (.tmp 17) rfl _ rfl 2 (spAt 0 0) (spAt i j) rfl 33 size_spot (heap_at _ _ _ rfl) (fun i _ => spAt_one _ _ i) ?_; rw [setRow_at _ _ _ _ _ rfl]; have X := Go.Lib.hid (heap_at wr (.cells (vrow 2 (spAt i j)) 33) _ rfl); replace P := Go.Lib.hid (heap_past wr (.cells (vrow 2 (spAt i j)) 33) _ _ (row_lt P.out) P.out); replace R := Go.Lib.hid (heap_past wr (.cells (vrow 2 (spAt i j)) 33) _ _ (row_lt R.out) R.out); replace hKp := Go.Lib.hid (fun (g : Nat) X (h : w1.heap[g]? = some X) => heap_past wr (.cells (vrow 2 (spAt i j)) 33) _ _ (row_lt (hKp.out g X h)) (hKp.out g X h)); replace hB := Go.Lib.hid (hB.out.alloc hB.out.size (.cells (vrow 2 (spAt i j)) 33)); clear G; obtain ⟨xb, hxb⟩ : ∃ xb, wr.heap.size = xb := ⟨_, rfl⟩; rw [hxb] at X ⊢; obtain ⟨Wx, hWx⟩ : ∃ Wx, wr.alloc (.cells (vrow 2 (spAt i j)) 33) = Wx := ⟨_, rfl⟩; rw [hWx] at P R X hB hKp ⊢; clear hxb hWx)
              | ((with_reducible refine wlAt 18 rfl ?_); refine wpList_ldm 61 (.tmp 2) rfl (by first | exact want_n rfl | exact want_g _ _ _ rfl rfl rfl) (w.heap.size) _ rfl 66 66 p.at _ rw_pic size_pic P.out (by omega) ?_; rw [pic_row])
              | ((with_reducible refine wlAt 19 rfl ?_); refine wpList_ldm 33 (.tmp 8) rfl (by first | exact want_n rfl | exact want_g _ _ _ rfl rfl rfl) (xb) _ rfl 2 2 (spAt i j) _ rw_spot size_spot X.out (by omega) ?_; rw [sp_row])
              | (go_at_call 179; (refine (HS.out _).mono ?_); rintro o w2 ⟨rfl, hb⟩; clear X; replace P := Go.Lib.hid (row_next hb P.out); replace R := Go.Lib.hid (row_next hb R.out); replace hB := Go.Lib.hid (below_next hB.out hb); replace hKp := Go.Lib.hid (fun (g : Nat) X (h : w1.heap[g]? = some X) => row_next hb (hKp.out g X h)); clear hb))
            go_roundw
            case rel => exact ⟨k + 1, _, _, by omega, by go_num, rfl, rfl, HN.out, by omega, P.out, R.out, hKp.out, hB.out⟩
            case measure => simp [intOf]; omega
          · have hdm : (m != 0) = true := by simpa using hm0
            by_cases hq : vk = m
            · rw [if_neg (by omega)] at hap
              have HN := Go.Lib.hid hap
              have hdq : (vk != m) = false := by simpa using hq
              clear hap hno hq
              go_wp2_with (first
                | go_skip
                | ((with_reducible refine wlAt 17 rfl ?_); refine wpList_loadmid rfl 33 (.tmp 16) rfl g (k * 2) rfl N 2 f 33 _ Tryd.underlying33 rfl size_spot G.out (by omega) ?_; rw [HV2.out])
                | ((with_reducible refine wlOp (.store 33 (.tmp 8) (.tmp 17)) rfl ?_); refine wpList_storeall rfl 33 (.tmp 8) (.tmp 17) rfl _ rfl 2 (spAt 0 0) (spAt i j) rfl 33 size_spot (heap_at _ _ _ rfl) (fun i _ => spAt_one _ _ i) ?_; rw [setRow_at _ _ _ _ _ rfl]; have X := Go.Lib.hid (heap_at wr (.cells (vrow 2 (spAt i j)) 33) _ rfl); replace P := Go.Lib.hid (heap_past wr (.cells (vrow 2 (spAt i j)) 33) _ _ (row_lt P.out) P.out); replace R := Go.Lib.hid (heap_past wr (.cells (vrow 2 (spAt i j)) 33) _ _ (row_lt R.out) R.out); replace hKp := Go.Lib.hid (fun (g : Nat) X (h : w1.heap[g]? = some X) => heap_past wr (.cells (vrow 2 (spAt i j)) 33) _ _ (row_lt (hKp.out g X h)) (hKp.out g X h)); replace hB := Go.Lib.hid (hB.out.alloc hB.out.size (.cells (vrow 2 (spAt i j)) 33)); clear G; obtain ⟨xb, hxb⟩ : ∃ xb, wr.heap.size = xb := ⟨_, rfl⟩; rw [hxb] at X ⊢; obtain ⟨Wx, hWx⟩ : ∃ Wx, wr.alloc (.cells (vrow 2 (spAt i j)) 33) = Wx := ⟨_, rfl⟩; rw [hWx] at P R X hB hKp ⊢; clear hxb hWx)
                | ((with_reducible refine wlAt 18 rfl ?_); refine wpList_ldm 61 (.tmp 2) rfl (by first | exact want_n rfl | exact want_g _ _ _ rfl rfl rfl) (w.heap.size) _ rfl 66 66 p.at _ rw_pic size_pic P.out (by omega) ?_; rw [pic_row])
                | ((with_reducible refine wlAt 19 rfl ?_); refine wpList_ldm 33 (.tmp 8) rfl (by first | exact want_n rfl | exact want_g _ _ _ rfl rfl rfl) (xb) _ rfl 2 2 (spAt i j) _ rw_spot size_spot X.out (by omega) ?_; rw [sp_row])
                | (go_at_call 179; (refine (HS.out _).mono ?_); rintro o w2 ⟨rfl, hb⟩; clear X; replace P := Go.Lib.hid (row_next hb P.out); replace R := Go.Lib.hid (row_next hb R.out); replace hB := Go.Lib.hid (below_next hB.out hb); replace hKp := Go.Lib.hid (fun (g : Nat) X (h : w1.heap[g]? = some X) => row_next hb (hKp.out g X h)); clear hb))
              go_roundw
              case rel => exact ⟨k + 1, _, _, by omega, by go_num, rfl, rfl, HN.out, by omega, P.out, R.out, hKp.out, hB.out⟩
              case measure => simp [intOf]; omega
            · rw [if_pos (by omega)] at hap
              have HN := Go.Lib.hid (hno hap)
              have hdq : (vk != m) = true := by simpa using hq
              clear hap hno hq
              go_wp2_with (first
                | go_skip
                | ((with_reducible refine wlAt 17 rfl ?_); refine wpList_loadmid rfl 33 (.tmp 16) rfl g (k * 2) rfl N 2 f 33 _ Tryd.underlying33 rfl size_spot G.out (by omega) ?_; rw [HV2.out])
                | ((with_reducible refine wlOp (.store 33 (.tmp 8) (.tmp 17)) rfl ?_); refine wpList_storeall rfl 33 (.tmp 8) (.tmp 17) rfl _ rfl 2 (spAt 0 0) (spAt i j) rfl 33 size_spot (heap_at _ _ _ rfl) (fun i _ => spAt_one _ _ i) ?_; rw [setRow_at _ _ _ _ _ rfl]; have X := Go.Lib.hid (heap_at wr (.cells (vrow 2 (spAt i j)) 33) _ rfl); replace P := Go.Lib.hid (heap_past wr (.cells (vrow 2 (spAt i j)) 33) _ _ (row_lt P.out) P.out); replace R := Go.Lib.hid (heap_past wr (.cells (vrow 2 (spAt i j)) 33) _ _ (row_lt R.out) R.out); replace hKp := Go.Lib.hid (fun (g : Nat) X (h : w1.heap[g]? = some X) => heap_past wr (.cells (vrow 2 (spAt i j)) 33) _ _ (row_lt (hKp.out g X h)) (hKp.out g X h)); replace hB := Go.Lib.hid (hB.out.alloc hB.out.size (.cells (vrow 2 (spAt i j)) 33)); clear G; obtain ⟨xb, hxb⟩ : ∃ xb, wr.heap.size = xb := ⟨_, rfl⟩; rw [hxb] at X ⊢; obtain ⟨Wx, hWx⟩ : ∃ Wx, wr.alloc (.cells (vrow 2 (spAt i j)) 33) = Wx := ⟨_, rfl⟩; rw [hWx] at P R X hB hKp ⊢; clear hxb hWx)
                | ((with_reducible refine wlAt 18 rfl ?_); refine wpList_ldm 61 (.tmp 2) rfl (by first | exact want_n rfl | exact want_g _ _ _ rfl rfl rfl) (w.heap.size) _ rfl 66 66 p.at _ rw_pic size_pic P.out (by omega) ?_; rw [pic_row])
                | ((with_reducible refine wlAt 19 rfl ?_); refine wpList_ldm 33 (.tmp 8) rfl (by first | exact want_n rfl | exact want_g _ _ _ rfl rfl rfl) (xb) _ rfl 2 2 (spAt i j) _ rw_spot size_spot X.out (by omega) ?_; rw [sp_row])
                | (go_at_call 179; (refine (HS.out _).mono ?_); rintro o w2 ⟨rfl, hb⟩; clear X; replace P := Go.Lib.hid (row_next hb P.out); replace R := Go.Lib.hid (row_next hb R.out); replace hB := Go.Lib.hid (below_next hB.out hb); replace hKp := Go.Lib.hid (fun (g : Nat) X (h : w1.heap[g]? = some X) => row_next hb (hKp.out g X h)); clear hb))
              go_ret
              exact ⟨by rw [HPK.out, HN.out]; rfl, hB.out⟩
    · obtain rfl : k = L.length := by omega
      rw [List.take_length] at hA
      have hkd : decide ((L.length : Int) < (L.length : Int)) = false := by simp
      replace P := Go.Lib.hid P; replace R := Go.Lib.hid R; replace hB := Go.Lib.hid hB
      clear hKp
      by_cases hm0 : m = 0
      · have HN := Go.Lib.hid (show PK = none by rw [HPK.out, hA]; simp only [if_pos hm0])
        clear hA
        subst hm0
        go_wp2
        go_ret
        exact ⟨by rw [HN.out]; rfl, hB.out⟩
      · have HN := Go.Lib.hid (show PK = some (m - 1, b) by rw [HPK.out, hA]; simp only [if_neg hm0])
        have hdm : (m == 0) = false := by simpa using hm0
        have hu8 : IntKind.u8.wrap (m - 1) = m - 1 := IntWalk.u8_in _ (by omega)
        clear hA
        cases b
        · go_wp2_with (first
            | go_skip
            | ((with_reducible refine wlAt 46 rfl ?_); refine wpList_ldm 33 (.tmp 3) rfl (by first | exact want_n rfl | exact want_g _ _ _ rfl rfl rfl) (w.heap.size + 1) _ rfl 2 2 (spAt x y) _ rw_spot size_spot R.out (by omega) ?_; rw [sp_row]))
          go_ret
          exact ⟨by rw [HN.out]; rfl, hB.out⟩
        · go_wp2_with (first
            | go_skip
            | ((with_reducible refine wlAt 41 rfl ?_); refine wpList_ldm 33 (.tmp 3) rfl (by first | exact want_n rfl | exact want_g _ _ _ rfl rfl rfl) (w.heap.size + 1) _ rfl 2 2 (spAt x y) _ rw_spot size_spot R.out (by omega) ?_; rw [sp_row]))
          go_ret
          exact ⟨by rw [HN.out]; rfl, hB.out⟩
end Go.Proofs.YtfgcpiipndhllaaDoor
namespace Go.Proofs.YtfgcpiipndhllaaDoor
open Go.RowKit
set_option linter.unusedVariables false
set_option linter.unusedSimpArgs false
attribute [local go_sem] Oper.semAt_some
/-- what is put behind at a cell -/
def pkE (x y : Int) (st : Option (Int × Bool)) : List Value := match st with
  | none => []
  | some _ => [pkV x y st]
def pkF (p : Pic) (a c : Nat) (l : List Sp8) : List Value := l.flatMap fun q => pkE q.1.1 q.1.2 (pinkO p (cov a c q.1.1 q.1.2))
theorem pkF_app (p : Pic) (a c : Nat) (l : List Sp8) (q : Sp8) : pkF p a c (l ++ [q]) = pkF p a c l ++ pkE q.1.1 q.1.2 (pinkO p (cov a c q.1.1 q.1.2)) := by simp [pkF]
theorem pkE_len (x y : Int) (st : Option (Int × Bool)) : (pkE x y st).length ≤ 1 := by cases st <;> simp [pkE]
theorem pkF_len (p : Pic) (a c : Nat) (l : List Sp8) : (pkF p a c l).length ≤ l.length := by
  induction l with
  | nil => exact Nat.le_refl _
  | cons q l ih =>
    have h1 : pkF p a c (q :: l) = pkE q.1.1 q.1.2 (pinkO p (cov a c q.1.1 q.1.2)) ++ pkF p a c l := by simp [pkF]
    have h2 := pkE_len q.1.1 q.1.2 (pinkO p (cov a c q.1.1 q.1.2))
    rw [h1, List.length_append, List.length_cons]; omega
theorem size_pls : (Tryd.prog.info? 201).map (·.size) = some 1 := by kernel_rfl
theorem info_pel : (Tryd.prog.info? 204).map (fun i => (i.zero, i.size, i.bytes)) = some (some .nilIface, 1, 16) := by kernel_rfl
set_option maxRecDepth 100000 in
set_option maxHeartbeats 8000000 in
theorem peelables_any (p : Pic) (a c : Nat) (w : World) (hk4 : ∀ i, i < 64 → 0 ≤ p.ink i ∧ p.ink i ≤ 4) (ea : p.wide = a) (ec : p.high = c) (ha : a ≤ 8) (hc : c ≤ 8) :
    Calls Tryd.prog 143 #[.agg p.row] w fun e w' => ∃ v, e = .returned v ∧ w'.ownsRow w.heap.size 204 1 v (pkF p a c (cellsL a c)).length (pkF p a c (cellsL a c)) ∧ Below w.heap.size w w' := by
  obtain ⟨i0, hi, hz0, hz1, hz2⟩ := info_parts info_pel
  have zs := zero_spotP
  have HC := Go.Lib.hid fun (x y : Nat) W (hx : x < 8) (hy : y < 8) => peelAt_any p a c x y W hk4 ea ec ha hc hx hy
  have P : Hid (((w.alloc (.cells (vrow 66 p.at) 61)).alloc (.cells #[.slice none 0 0] 201)).heap[w.heap.size]? = some (.cells (vrow 66 p.at) 61)) := heap_past _ _ _ _ (by simp <;> omega) (heap_at _ _ _ (by simp))
  have LB : Hid (((w.alloc (.cells (vrow 66 p.at) 61)).alloc (.cells #[.slice none 0 0] 201)).heap[w.heap.size + 1]? = some (.cells (vrow 1 fun _ => .slice none 0 0) 201)) := heap_at _ _ _ (by simp)
  have hB : Hid (Below w.heap.size w ((w.alloc (.cells (vrow 66 p.at) 61)).alloc (.cells #[.slice none 0 0] 201))) := Go.Lib.hid (((Below.refl w.heap.size w).alloc (by simp <;> omega) _).alloc (by simp <;> omega) _)
  refine (callsIn_wide (n := 9)).1 ?_
  refine callsIn_of_wp_marks Tryd.func143 rfl trivial ?_ rfl
  simp only [Tryd.ntmps143, List.size_toArray, List.length_cons, List.length_nil, Nat.reduceAdd, Nat.reduceSub, Array.replicate_succ, Array.replicate_zero, List.push_toArray, List.append_toArray, List.nil_append, List.cons_append]
  refine wpIn_wide.2 ?_
  go_wp2_with (first
    | go_skip
    | ((with_reducible refine wlAt 7 rfl ?_); refine wpList_load1 rfl 22 (.tmp 6) rfl (w.heap.size) 0 rfl 66 p.at _ _ Tryd.underlying22 rfl P.out (by omega) ?_; rw [Pic.at_0, ea])
    | ((with_reducible refine wlAt 9 rfl ?_); refine wpList_load1 rfl 22 (.tmp 8) rfl (w.heap.size) 1 rfl 66 p.at _ _ Tryd.underlying22 rfl P.out (by omega) ?_; rw [Pic.at_1, ec])
    | (go_at_call 154; refine (cells_any _ _ _).mono ?_; rintro e w5 ⟨rfl, rfl⟩))
  generalize hWn : ((w.alloc (.cells p.row 61)).alloc (.cells #[.slice none 0 0] 201)) = Wn at hB P LB ⊢
  have hws : Wn.heap.size = w.heap.size + 1 + 1 := by rw [← hWn]; simp
  clear hWn
  have c1 := heap_at (Wn.alloc (.cells #[.int .i8 a] 22)) (.cells #[.int .i8 c] 22) (Wn.heap.size + 1) (by simp)
  have c2 := heap_past (Wn.alloc (.cells #[.int .i8 a] 22)) (.cells #[.int .i8 c] 22) _ Wn.heap.size (by simp) (heap_at Wn (.cells #[.int .i8 a] 22) _ rfl)
  have hB1 : Below Wn.heap.size Wn ((Wn.alloc (.cells #[.int .i8 a] 22)).alloc (.cells #[.int .i8 c] 22)) := ((Below.refl _ _).alloc (Nat.le_refl _) _).alloc (by simp) _
  have hs0 : ((Wn.alloc (.cells #[.int .i8 a] 22)).alloc (.cells #[.int .i8 c] 22)).heap.size = w.heap.size + 4 := by simp; omega
  obtain ⟨W0, hW0⟩ : ∃ W0, (Wn.alloc (.cells #[.int .i8 a] 22)).alloc (.cells #[.int .i8 c] 22) = W0 := ⟨_, rfl⟩
  rw [hW0] at c1 c2 hB1 hs0 ⊢
  clear hW0
  rw [hws] at c1 c2
  try rw [hws]
  replace P := row_next hB1 P.out; replace LB := row_next hB1 LB.out; replace hB := below_next hB.out hB1
  clear hB1 hws
  refine wp_cellsN (d := 4) (w.heap.size + 1 + 1 + 1) (w.heap.size + 1 + 1) a c ha hc rfl c1 c2
    (fun pre W => ∃ v, W.heap[w.heap.size + 1]? = some (.cells (vrow 1 fun _ => v) 201) ∧ W.ownsRow W0.heap.size 204 1 v (pkF p a c (pre.map toSp)).length (pkF p a c (pre.map toSp)) ∧ W.heap[w.heap.size]? = some (.cells (vrow 66 p.at) 61) ∧ Below w.heap.size w W)
    (fun _ _ _ => False)
    (own_ex fun v => OwnFrom.and (own_row (by omega)) (OwnFrom.and (own_ownsRowC (fun _ => v) (fun pre : List (SpN a c) => (pkF p a c (pre.map toSp)).length) (fun pre => pkF p a c (pre.map toSp))) (OwnFrom.and (own_row (by omega)) (ownFrom_below (Nat.le_refl _) (by omega)))))
    (fun c => own_pure _)
    ⟨_, LB, World.ownsRow_nil _ _ _ _, P, hB⟩ ?assign ?body ?done ?stop
  case assign =>
    intro l x W K hK
    simp only [List.setIfInBounds_toArray, List.set_cons_succ, List.set_cons_zero] at hK ⊢
    gi_wp2_with (refine wpListIn_storeall rfl 33 (.tmp 4) (.tmp 11) rfl _ rfl 2 (spAt 0 0) (spAt x.1.1 x.1.2) rfl 33 size_spot (heap_at _ _ _ rfl) (fun i _ => spAt_one _ _ i) ?_; rw [setRow_at _ _ _ _ _ rfl])
    exact hK
  case body =>
    rintro l pre ⟨⟨x, y⟩, hx, hy⟩ Wb W Bx hK hBx R hsz ⟨v, LB, O, P, hB⟩ hlen
    simp only [List.setIfInBounds_toArray, List.set_cons_succ, List.set_cons_zero] at R ⊢
    replace hx : x < a := hx
    replace hy : y < c := hy
    have hx8 : x < 8 := by omega
    have hy8 : y < 8 := by omega
    have hts : toSp (⟨(x, y), hx, hy⟩ : SpN a c) = ⟨(x, y), hx8, hy8⟩ := Subtype.ext (toSp_val ha hc _)
    have hap : pkF p a c ((pre ++ [(⟨(x, y), hx, hy⟩ : SpN a c)]).map toSp) = pkF p a c (pre.map toSp) ++ pkE x y (pinkO p (cov a c x y)) := by
      rw [List.map_append, List.map_cons, List.map_nil, pkF_app, hts]
    have hle : (pkF p a c (pre.map toSp)).length ≤ pre.length := by
      have := pkF_len p a c (pre.map toSp); rw [List.length_map] at this; exact this
    have hac : a * c ≤ 64 := Nat.mul_le_mul ha hc
    clear hts
    generalize pkF p a c (pre.map toSp) = L at *
    have hrl := row_lt R
    have hCk := Go.Lib.hid ((CkB.start (N := W0.heap.size) (b1 := w.heap.size + 1 + 1 + 1) (b2 := w.heap.size + 1 + 1) (X := Wb) (by omega) (by omega)).step (grown_next (grown_refl Wb none) hK) (fun j e => by cases e))
    replace R := Go.Lib.hid R; replace P := Go.Lib.hid P; replace LB := Go.Lib.hid LB; replace O := Go.Lib.hid O; replace hB := Go.Lib.hid hB
    have HAP := Go.Lib.hid hap
    have HCX := Go.Lib.hid fun W => HC.out x y W hx8 hy8
    obtain ⟨Wc, hWc⟩ : ∃ Wc : World, Wc = W := ⟨_, rfl⟩
    rw [← hWc] at R P LB O hB hCk hrl ⊢
    clear hWc hK hap HC
    generalize pinkO p (cov a c x y) = st at *
    rcases st with _ | ⟨n, fr⟩
    · have HAP2 := Go.Lib.hid (show pkF p a c ((pre ++ [(⟨(x, y), hx, hy⟩ : SpN a c)]).map toSp) = L by rw [HAP.out]; simp [pkE])
      clear HAP
      have HCY : Hid (∀ W, Calls Tryd.prog 178 #[.agg p.row, .agg (vrow 2 (spAt x y))] W fun o w' => o = .returned .nilIface ∧ Below W.heap.size W w') := Go.Lib.hid fun W => HCX.out W
      clear HCX
      gi_wp2_with (first
        | ((with_reducible refine wAtI 12 rfl ?_); refine ldmI 61 _ rfl (by first | exact want_n rfl | exact want_g _ _ _ rfl rfl rfl) (w.heap.size) _ rfl 66 66 p.at _ rw_pic size_pic P.out (by omega) ?_; rw [pic_row])
        | ((with_reducible refine wAtI 13 rfl ?_); refine ldmI 33 _ rfl (by first | exact want_n rfl | exact want_g _ _ _ rfl rfl rfl) Bx _ rfl 2 2 (spAt x y) _ rw_spot size_spot R.out (by omega) ?_; rw [sp_row])
        | (refine ⟨trivial, ?_⟩; gi_at_call 178; (refine (callsFW (ro := some _) (HCY.out _)).mono ?_; rintro e w1 ⟨rfl, hb⟩; replace hCk := Go.Lib.hid (hCk.out.step (grown_next (grown_refl Wc none) hb) (fun j e => by cases e)); replace O := Go.Lib.hid (O.out.kept (grown_next (grown_refl Wc none) hb) (by cases hv : Value.ownBlock _ <;> simp)); replace R := Go.Lib.hid (row_next hb R.out); replace P := Go.Lib.hid (row_next hb P.out); replace LB := Go.Lib.hid (row_next hb LB.out); replace hB := Go.Lib.hid (below_next hB.out hb); have hrl2 := hb.size; clear hb)))
      exact ⟨hCk.out.keep, hCk.out.kp, v, LB.out, by rw [HAP2.out]; exact O.out, P.out, hB.out⟩
    · cases fr
      · have HAP2 := Go.Lib.hid (show pkF p a c ((pre ++ [(⟨(x, y), hx, hy⟩ : SpN a c)]).map toSp) = L ++ [.iface 205 (.agg (vrow 3 (drAt x y n)))] from HAP.out)
        clear HAP
        have HCY : Hid (∀ W, Calls Tryd.prog 178 #[.agg p.row, .agg (vrow 2 (spAt x y))] W fun o w' => o = .returned (.iface 205 (.agg (vrow 3 (drAt x y n)))) ∧ Below W.heap.size W w') := Go.Lib.hid fun W => HCX.out W
        clear HCX
        generalize hVV : (.agg (vrow 3 (drAt x y n)) : Value) = VV at *
        clear hVV
        gi_wp2_with (first
          | ((with_reducible refine wAtI 12 rfl ?_); refine ldmI 61 _ rfl (by first | exact want_n rfl | exact want_g _ _ _ rfl rfl rfl) (w.heap.size) _ rfl 66 66 p.at _ rw_pic size_pic P.out (by omega) ?_; rw [pic_row])
          | ((with_reducible refine wAtI 13 rfl ?_); refine ldmI 33 _ rfl (by first | exact want_n rfl | exact want_g _ _ _ rfl rfl rfl) Bx _ rfl 2 2 (spAt x y) _ rw_spot size_spot R.out (by omega) ?_; rw [sp_row])
          | (refine ⟨trivial, ?_⟩; gi_at_call 178; (refine (callsFW (ro := some _) (HCY.out _)).mono ?_; rintro e w1 ⟨rfl, hb⟩; replace hCk := Go.Lib.hid (hCk.out.step (grown_next (grown_refl Wc none) hb) (fun j e => by cases e)); replace O := Go.Lib.hid (O.out.kept (grown_next (grown_refl Wc none) hb) (by cases hv : Value.ownBlock _ <;> simp)); replace R := Go.Lib.hid (row_next hb R.out); replace P := Go.Lib.hid (row_next hb P.out); replace LB := Go.Lib.hid (row_next hb LB.out); replace hB := Go.Lib.hid (below_next hB.out hb); have hrl2 := hb.size; clear hb))
          | ((with_reducible refine wlAtB 17 rfl ?_); refine loadoneB rfl 201 (.tmp 3) rfl (w.heap.size + 1) 0 rfl 1 (fun _ => v) 201 _ Tryd.underlying201 rfl LB.out (by omega) ?_)
          | ((with_reducible refine wlAtB 20 rfl ?_); refine wpListIn_append_own _ rfl (.tmp 17) (.tmp 19) 201 rfl W0.heap.size 204 i0 .nilIface 1 16 Tryd.underlying201 hi hz0 hz1 hz2 rfl (by decide) v _ _ rfl (O.out.alloc _) ⟨w1.heap.size, 0, none⟩ 1 1 [.iface 205 VV] rfl rfl (World.news_of_block (heap_at _ _ _ rfl)) (by simp [Value.oneCell']) (by simp only [maxLen]; omega) (by omega) (by simp; omega) ?_; intro v' w3 hO3 hg3 _; have hov := O.out.lt; have m1 := row_lt P.out; have m2 := row_lt LB.out; replace P := Go.Lib.hid ((hg3.block _ (by simp; omega) (fun e => by have := (hov _ e.symm).1; omega)).trans (heap_past _ _ _ _ m1 P.out)); replace LB := Go.Lib.hid ((hg3.block _ (by simp; omega) (fun e => by have := (hov _ e.symm).1; omega)).trans (heap_past _ _ _ _ m2 LB.out)); replace hB := Go.Lib.hid ((hB.out.alloc hB.out.size _).grown hg3 (by simp; have := hB.out.size; omega) (fun q hq => by have := (hov q hq).1; omega)); have hkk := keeps_own (B := W0.heap.size) (O.out.alloc _) hg3; have hck1 := hCk.out.step (World.grownBy_alloc w1 (.cells #[.iface 205 VV] 204) none) (fun j e => by cases e); have s1 := hck1.s1; have s2 := hck1.s2; have hp1 := hg3.block _ s1 (fun e => by have := (hov _ e.symm).1; omega); have hp2 := hg3.block _ s2 (fun e => by have := (hov _ e.symm).1; omega); have hkp : Kp2 (w.heap.size + 1 + 1 + 1) (w.heap.size + 1 + 1) (w1.alloc (.cells #[.iface 205 VV] 204)) w3 := And.intro hp1 hp2; have hck2 := CkB.stepK hck1 hkk hkp; have hCk3 := Go.Lib.hid hck2; clear hg3 hkk hov m1 m2 hck1 s1 s2 hp1 hp2 hkp hck2)
          | ((with_reducible refine wlOpB (.store 201 (.tmp 3) (.tmp 20)) rfl ?_); refine wpListIn_store1 rfl 201 (.tmp 3) (.tmp 20) rfl (w.heap.size + 1) 0 rfl 1 (fun _ => v) v' rfl 201 size_pls LB.out (by omega) (own_one hO3) ?_; rw [vrow_over_all]; have hgr := grown_set (grown_refl w3 (some (w.heap.size + 1))) (vrow 1 fun _ => v'); have hov3 := hO3.lt; replace P := Go.Lib.hid (row_set' (g := w.heap.size + 1) (by omega) P.out (vrow 1 fun _ => v')); replace LB := Go.Lib.hid (row_set LB.out (vrow 1 fun _ => v')); have O3 := Go.Lib.hid (hO3.kept hgr (.inr (fun e => by have := (hov3 _ e).1; omega))); replace hCk3 := Go.Lib.hid (hCk3.out.step hgr (fun j e => by cases e; exact ⟨by omega, by omega, by omega⟩)); replace hB := Go.Lib.hid (Below_setRow hB.out (show w.heap.size ≤ w.heap.size + 1 by omega) (vrow 1 fun _ => v')); clear hgr hO3))
        exact ⟨hCk3.out.keep, hCk3.out.kp, v', LB.out, by rw [HAP2.out, List.length_append]; exact O3.out, P.out, hB.out⟩
      · have HAP2 := Go.Lib.hid (show pkF p a c ((pre ++ [(⟨(x, y), hx, hy⟩ : SpN a c)]).map toSp) = L ++ [.iface 273 (.agg (vrow 3 (drAt x y n)))] from HAP.out)
        clear HAP
        have HCY : Hid (∀ W, Calls Tryd.prog 178 #[.agg p.row, .agg (vrow 2 (spAt x y))] W fun o w' => o = .returned (.iface 273 (.agg (vrow 3 (drAt x y n)))) ∧ Below W.heap.size W w') := Go.Lib.hid fun W => HCX.out W
        clear HCX
        generalize hVV : (.agg (vrow 3 (drAt x y n)) : Value) = VV at *
        clear hVV
        gi_wp2_with (first
          | ((with_reducible refine wAtI 12 rfl ?_); refine ldmI 61 _ rfl (by first | exact want_n rfl | exact want_g _ _ _ rfl rfl rfl) (w.heap.size) _ rfl 66 66 p.at _ rw_pic size_pic P.out (by omega) ?_; rw [pic_row])
          | ((with_reducible refine wAtI 13 rfl ?_); refine ldmI 33 _ rfl (by first | exact want_n rfl | exact want_g _ _ _ rfl rfl rfl) Bx _ rfl 2 2 (spAt x y) _ rw_spot size_spot R.out (by omega) ?_; rw [sp_row])
          | (refine ⟨trivial, ?_⟩; gi_at_call 178; (refine (callsFW (ro := some _) (HCY.out _)).mono ?_; rintro e w1 ⟨rfl, hb⟩; replace hCk := Go.Lib.hid (hCk.out.step (grown_next (grown_refl Wc none) hb) (fun j e => by cases e)); replace O := Go.Lib.hid (O.out.kept (grown_next (grown_refl Wc none) hb) (by cases hv : Value.ownBlock _ <;> simp)); replace R := Go.Lib.hid (row_next hb R.out); replace P := Go.Lib.hid (row_next hb P.out); replace LB := Go.Lib.hid (row_next hb LB.out); replace hB := Go.Lib.hid (below_next hB.out hb); have hrl2 := hb.size; clear hb))
          | ((with_reducible refine wlAtB 17 rfl ?_); refine loadoneB rfl 201 (.tmp 3) rfl (w.heap.size + 1) 0 rfl 1 (fun _ => v) 201 _ Tryd.underlying201 rfl LB.out (by omega) ?_)
          | ((with_reducible refine wlAtB 20 rfl ?_); refine wpListIn_append_own _ rfl (.tmp 17) (.tmp 19) 201 rfl W0.heap.size 204 i0 .nilIface 1 16 Tryd.underlying201 hi hz0 hz1 hz2 rfl (by decide) v _ _ rfl (O.out.alloc _) ⟨w1.heap.size, 0, none⟩ 1 1 [.iface 273 VV] rfl rfl (World.news_of_block (heap_at _ _ _ rfl)) (by simp [Value.oneCell']) (by simp only [maxLen]; omega) (by omega) (by simp; omega) ?_; intro v' w3 hO3 hg3 _; have hov := O.out.lt; have m1 := row_lt P.out; have m2 := row_lt LB.out; replace P := Go.Lib.hid ((hg3.block _ (by simp; omega) (fun e => by have := (hov _ e.symm).1; omega)).trans (heap_past _ _ _ _ m1 P.out)); replace LB := Go.Lib.hid ((hg3.block _ (by simp; omega) (fun e => by have := (hov _ e.symm).1; omega)).trans (heap_past _ _ _ _ m2 LB.out)); replace hB := Go.Lib.hid ((hB.out.alloc hB.out.size _).grown hg3 (by simp; have := hB.out.size; omega) (fun q hq => by have := (hov q hq).1; omega)); have hkk := keeps_own (B := W0.heap.size) (O.out.alloc _) hg3; have hck1 := hCk.out.step (World.grownBy_alloc w1 (.cells #[.iface 273 VV] 204) none) (fun j e => by cases e); have s1 := hck1.s1; have s2 := hck1.s2; have hp1 := hg3.block _ s1 (fun e => by have := (hov _ e.symm).1; omega); have hp2 := hg3.block _ s2 (fun e => by have := (hov _ e.symm).1; omega); have hkp : Kp2 (w.heap.size + 1 + 1 + 1) (w.heap.size + 1 + 1) (w1.alloc (.cells #[.iface 273 VV] 204)) w3 := And.intro hp1 hp2; have hck2 := CkB.stepK hck1 hkk hkp; have hCk3 := Go.Lib.hid hck2; clear hg3 hkk hov m1 m2 hck1 s1 s2 hp1 hp2 hkp hck2)
          | ((with_reducible refine wlOpB (.store 201 (.tmp 3) (.tmp 20)) rfl ?_); refine wpListIn_store1 rfl 201 (.tmp 3) (.tmp 20) rfl (w.heap.size + 1) 0 rfl 1 (fun _ => v) v' rfl 201 size_pls LB.out (by omega) (own_one hO3) ?_; rw [vrow_over_all]; have hgr := grown_set (grown_refl w3 (some (w.heap.size + 1))) (vrow 1 fun _ => v'); have hov3 := hO3.lt; replace P := Go.Lib.hid (row_set' (g := w.heap.size + 1) (by omega) P.out (vrow 1 fun _ => v')); replace LB := Go.Lib.hid (row_set LB.out (vrow 1 fun _ => v')); have O3 := Go.Lib.hid (hO3.kept hgr (.inr (fun e => by have := (hov3 _ e).1; omega))); replace hCk3 := Go.Lib.hid (hCk3.out.step hgr (fun j e => by cases e; exact ⟨by omega, by omega, by omega⟩)); replace hB := Go.Lib.hid (Below_setRow hB.out (show w.heap.size ≤ w.heap.size + 1 by omega) (vrow 1 fun _ => v')); clear hgr hO3))
        exact ⟨hCk3.out.keep, hCk3.out.kp, v', LB.out, by rw [HAP2.out, List.length_append]; exact O3.out, P.out, hB.out⟩
  case done =>
    rintro D W hD ⟨v, LB, O, P, hB⟩ hd
    rw [toSp_cells a c ha c (Nat.le_refl _) hc] at O
    replace hd := Go.Lib.hid hd; replace hB := Go.Lib.hid hB; replace LB := Go.Lib.hid LB
    clear P
    go_wp2_with (first
      | ((with_reducible refine wlAt 21 rfl ?_); refine wpList_load1 rfl 201 (.tmp 3) rfl (w.heap.size + 1) 0 rfl 1 (fun _ => v) _ _ Tryd.underlying201 rfl LB.out (by omega) ?_))
    have hlt := row_lt hd.out
    refine leaveB rfl hd.out (results_tmp rfl _ _ _) ?_
    exact ⟨v, rfl, own_put (own_mono (by omega) O) hd.out, below_putB _ hB.out (by omega) hlt⟩
  case stop =>
    rintro D c pre W hD h hd
    exact h.elim
end Go.Proofs.YtfgcpiipndhllaaDoor
namespace Go.Proofs.YtfgcpiipndhllaaDoor
open Go.RowKit
set_option linter.unusedVariables false
set_option linter.unusedSimpArgs false
theorem size_td : (Tryd.prog.info? 205).map (·.size) = some 3 := by kernel_rfl
theorem rw_pet : (Tryd.prog.underlying 204).map (·.isRow) = some false := by kernel_rfl
theorem zero_tdP : ∀ w, (zeroValue 205).run Tryd.prog w = .ok (.agg (vrow 3 (drAt 0 0 0))) w := fun _ => by kernel_rfl
theorem ta_td (v : Value) (w : World) : (Instr.typeAssert (.iface 205 v) 204 205 true).run Tryd.prog w = .ok (.tuple #[v, .bool true]) w := by kernel_rfl
theorem info_drL : (Tryd.prog.info? 66).map (fun i => (i.zero, i.size, i.bytes)) = some (some (.agg #[.int .i8 0, .int .i8 0, .int .u8 0]), 3, 3) := by kernel_rfl
set_option maxHeartbeats 1000000 in
theorem tdrop_any (x y n : Int) (w : World) : Calls Tryd.prog 144 #[.agg (vrow 3 (drAt x y n))] w fun e w' => e = .returned (.agg (vrow 3 (drAt x y n))) ∧ Below w.heap.size w w' := by
  have zz := zero_drD
  have R : Hid (((w.alloc (.cells (vrow 3 (drAt x y n)) 205)).alloc (.cells (vrow 3 (drAt 0 0 0)) 66)).heap[w.heap.size]? = some (.cells (vrow 3 (drAt x y n)) 205)) := (heap_past _ _ _ _ (by simp <;> omega) (heap_at _ _ _ (by simp)))
  have Z : Hid (((w.alloc (.cells (vrow 3 (drAt x y n)) 205)).alloc (.cells (vrow 3 (drAt 0 0 0)) 66)).heap[w.heap.size + 1]? = some (.cells (vrow 3 (drAt 0 0 0)) 66)) := (heap_at _ _ _ (by simp))
  have hB : Hid (Below w.heap.size w ((w.alloc (.cells (vrow 3 (drAt x y n)) 205)).alloc (.cells (vrow 3 (drAt 0 0 0)) 66))) := Go.Lib.hid (((Below.refl w.heap.size w).alloc (by simp <;> omega) _).alloc (by simp <;> omega) _)
  go_enter Tryd.func144, Tryd.ntmps144
  go_wp2_with (first
    | go_skip
    | ((with_reducible refine wlAt 3 rfl ?_); refine wpList_loadall rfl 205 (.tmp 1) rfl w.heap.size rfl 3 (drAt x y n) 205 _ Tryd.underlying205 rfl size_td R.out ?_)
    | ((with_reducible refine wlOp (.store 66 (.tmp 2) (.tmp 3)) rfl ?_); refine wpList_storeall rfl 66 (.tmp 2) (.tmp 3) rfl (w.heap.size + 1) rfl 3 (drAt 0 0 0) (drAt x y n) rfl 66 size_dr Z.out (fun i _ => drAt_one _ _ _ i) ?_))
  exact ret_row Tryd.results144 (w.heap.size + 1) 3 (drAt x y n) 66 _ Tryd.underlying66 rfl size_dr rfl rfl (row_set Z.out _) ⟨rfl, Below_setRow hB.out (by omega) _⟩
theorem own_len {W : World} {base size n : Nat} {t : TypeId} {v : Value} {xs : List Value} (h : W.ownsRow base t size v n xs) : ∃ ao c, v = .slice ao n c ∧ (n = 0 ∨ ∃ g, ao = some ⟨g, 0, none⟩) := by
  rcases h.2 with ⟨rfl, h0⟩ | ⟨g, cap, cur, rfl, _⟩
  · exact ⟨none, 0, by rw [h0], .inl h0⟩
  · exact ⟨_, _, rfl, .inr ⟨g, rfl⟩⟩
theorem size_keep {A B : World} (h : ∀ (g : Nat) X, A.heap[g]? = some X → B.heap[g]? = some X) : A.heap.size ≤ B.heap.size := by
  rcases Nat.lt_or_ge B.heap.size A.heap.size with hlt | hge
  · have h1 : A.heap[B.heap.size]? = some (A.heap[B.heap.size]'hlt) := Array.getElem?_eq_getElem hlt
    have := row_lt (h _ _ h1)
    omega
  · exact hge
/-- a picture without open cells -/
def no4 (p : Pic) : Prop := ∀ i, i < 64 → 0 ≤ p.ink i ∧ p.ink i ≤ 3
theorem pst_no {p : Pic} (h : no4 p) (st : Option (Int × Bool)) (hs : ∀ m fr, st = some (m, fr) → fr = false) (q : Sp8) : ∀ m fr, pst p st q = some (m, fr) → fr = false := by
  intro m fr e
  rcases st with _ | ⟨m0, f0⟩
  · cases e
  · have hf := hs m0 f0 rfl
    have hq : inkQ p q ≠ 4 := by have := h (8 * q.1.2 + q.1.1) (by have := q.2.1; have := q.2.2; omega); unfold inkQ; omega
    unfold pst at e
    simp only [if_neg hq] at e
    split at e
    · cases e
    · have := Option.some.inj e; exact (congrArg Prod.snd this).symm.trans hf
theorem pks_no {p : Pic} (h : no4 p) (L : List Sp8) : ∀ st : Option (Int × Bool), (∀ m fr, st = some (m, fr) → fr = false) → ∀ m fr, L.foldl (pst p) st = some (m, fr) → fr = false := by
  induction L with
  | nil => intro st hs m fr e; exact hs m fr e
  | cons q L ih => intro st hs; exact ih _ (pst_no h st hs q)
theorem pink_no {p : Pic} (h : no4 p) (L : List Sp8) (n : Int) (fr : Bool) (e : pinkO p L = some (n, fr)) : fr = false := by
  unfold pinkO at e
  cases hp : pks p L with
  | none => rw [hp] at e; cases e
  | some st =>
    obtain ⟨m, f⟩ := st
    rw [hp] at e
    have hf := pks_no h L (some (0, false)) (fun m fr e => by have := Option.some.inj e; exact (congrArg Prod.snd this).symm) m f hp
    simp only at e
    split at e
    · cases e
    · have := Option.some.inj e; exact (congrArg Prod.snd this).symm.trans hf
/-- the drops that can be the last -/
def lsE (p : Pic) (a c : Nat) (q : Sp8) : List (Sp8 × Int) := match pinkO p (cov a c q.1.1 q.1.2) with
  | none => []
  | some (n, _) => [(q, n)]
def lsL (p : Pic) (a c : Nat) (l : List Sp8) : List (Sp8 × Int) := l.flatMap (lsE p a c)
def tdV (t : Sp8 × Int) : Value := .iface 205 (.agg (vrow 3 (drAt t.1.1.1 t.1.1.2 t.2)))
def dvals (l : List (Sp8 × Int)) : List Value := l.flatMap fun t => [.int .i8 t.1.1.1, .int .i8 t.1.1.2, .int .u8 t.2]
theorem pkF_ls {p : Pic} (h : no4 p) (a c : Nat) (l : List Sp8) : pkF p a c l = (lsL p a c l).map tdV := by
  induction l with
  | nil => rfl
  | cons q l ih =>
    have h1 : pkF p a c (q :: l) = pkE q.1.1 q.1.2 (pinkO p (cov a c q.1.1 q.1.2)) ++ pkF p a c l := by simp [pkF]
    have h2 : lsL p a c (q :: l) = lsE p a c q ++ lsL p a c l := by simp [lsL]
    rw [h1, h2, ih, List.map_append]
    congr 1
    unfold lsE
    cases hp : pinkO p (cov a c q.1.1 q.1.2) with
    | none => rfl
    | some st =>
      obtain ⟨n, fr⟩ := st
      obtain rfl := pink_no h _ n fr hp
      rfl
theorem dvals_app (l m : List (Sp8 × Int)) : dvals (l ++ m) = dvals l ++ dvals m := by simp [dvals]
theorem dvals_one (t : Sp8 × Int) : dvals [t] = [.int .i8 t.1.1.1, .int .i8 t.1.1.2, .int .u8 t.2] := by simp [dvals]
theorem lsL_len (p : Pic) (a c : Nat) (ha : a ≤ 8) (hc : c ≤ 8) : (lsL p a c (cellsL a c)).length ≤ 64 := by
  have h1 : (cellsL a c).length = a * c := cellsL_length a c
  have h3 : a * c ≤ 64 := Nat.mul_le_mul ha hc
  have : ∀ l : List Sp8, (lsL p a c l).length ≤ l.length := fun l => by
    induction l with
    | nil => exact Nat.le_refl _
    | cons q l ih =>
      have h2 : lsL p a c (q :: l) = lsE p a c q ++ lsL p a c l := by simp [lsL]
      have h4 : (lsE p a c q).length ≤ 1 := by unfold lsE; split <;> simp
      rw [h2, List.length_append, List.length_cons]; omega
  have := this (cellsL a c)
  omega
set_option maxRecDepth 100000 in
set_option maxHeartbeats 4000000 in
theorem lastDrops_any (p : Pic) (a c : Nat) (w : World) (h4 : no4 p) (ea : p.wide = a) (ec : p.high = c) (ha : a ≤ 8) (hc : c ≤ 8) :
    Calls Tryd.prog 96 #[.agg p.row] w fun e w' => ∃ v, e = .returned v ∧ w'.ownsRow w.heap.size 66 3 v (lsL p a c (cellsL a c)).length (dvals (lsL p a c (cellsL a c))) ∧ Below w.heap.size w w' := by
  have HP := Go.Lib.hid fun w => peelables_any p a c w (fun i hi => ⟨(h4 i hi).1, by have := (h4 i hi).2; omega⟩) ea ec ha hc
  have hlen := lsL_len p a c ha hc
  rw [pkF_ls h4 a c] at HP
  simp only [List.length_map] at HP
  generalize lsL p a c (cellsL a c) = L at *
  obtain ⟨i0, hi, hz0, hz1, hz2⟩ := info_parts info_drL
  have zt := zero_tdP
  have hta := ta_td
  have P : Hid ((w.alloc (.cells (vrow 66 p.at) 61)).heap[w.heap.size]? = some (.cells (vrow 66 p.at) 61)) := (heap_at _ _ _ (by simp))
  have hB : Hid (Below w.heap.size w (w.alloc (.cells (vrow 66 p.at) 61))) := Go.Lib.hid ((Below.refl w.heap.size w).alloc (by simp <;> omega) _)
  go_enter Tryd.func96, Tryd.ntmps96
  go_wp2_with (first
    | go_skip
    | ((with_reducible refine wlAt 7 rfl ?_); refine wpList_ldm 61 (.tmp 1) rfl (by first | exact want_n rfl | exact want_g _ _ _ rfl rfl rfl) (w.heap.size) _ rfl 66 66 p.at _ rw_pic size_pic P.out (by omega) ?_; rw [pic_row])
    | (go_at_call 143; (refine (HP.out _).mono ?_); rintro o w1 ⟨v, rfl, hO, hb⟩; have hsb := hb.size; replace hB := Go.Lib.hid (below_next hB.out hb); clear hb P; obtain ⟨ao, cc, hvv, hao⟩ := own_len hO; subst hvv))
  have B0 := hB.out
  clear hB HP
  have hs1 : w.heap.size ≤ w1.heap.size := by simp at hsb; omega
  go_loopw [3, 10] (fun u iv wr => ∃ k : Nat, k ≤ L.length ∧ iv = .int .i64 k ∧ wr.ownsRow w1.heap.size 66 3 u (L.take k).length (dvals (L.take k)) ∧ (∀ (g : Nat) X, w1.heap[g]? = some X → wr.heap[g]? = some X) ∧ Below w.heap.size w wr) (fun _ iv _ => L.length - (intOf iv).toNat)
  case atStart => exact ⟨0, by omega, rfl, World.ownsRow_nil _ _ _ _, fun _ _ h => h, B0⟩
  case round =>
    clear B0
    rename_i u0 _ wr
    obtain ⟨k, hk, rfl, O, hKp, hB⟩ := hrel
    by_cases hlt : k < L.length
    · rcases hao with h0 | ⟨g, rfl⟩
      · omega
      obtain ⟨f, hrow, hcap, hf⟩ := own_row_ofB hO
      have Gr := Go.Lib.hid (hKp g _ hrow)
      obtain ⟨⟨⟨⟨xq, yq⟩, hx8, hy8⟩, n⟩, ht⟩ : ∃ t, L[k]'hlt = t := ⟨_, rfl⟩
      have hfk := hf k (tdV (L[k]'hlt)) (by omega) (by simp [hlt])
      rw [ht] at hfk
      have htk : L.take (k + 1) = L.take k ++ [(⟨(xq, yq), hx8, hy8⟩, n)] := by rw [List.take_succ_eq_append_getElem hlt, ht]
      have hlk : (L.take k).length = k := by rw [List.length_take]; omega
      obtain ⟨x, hx⟩ : ∃ x : Int, (xq : Int) = x := ⟨_, rfl⟩
      obtain ⟨y, hy⟩ : ∃ y : Int, (yq : Int) = y := ⟨_, rfl⟩
      have hfk2 : f k = .iface 205 (.agg (vrow 3 (drAt x y n))) := by rw [hfk, ← hx, ← hy]; rfl
      have hdv : dvals [((⟨(xq, yq), hx8, hy8⟩ : Sp8), n)] = [.int .i8 x, .int .i8 y, .int .u8 n] := by rw [dvals_one, ← hx, ← hy]
      have HD := Go.Lib.hid fun w => tdrop_any x y n w
      have FK := Go.Lib.hid hfk2; have HTK := Go.Lib.hid htk; have HDV := Go.Lib.hid hdv
      clear hfk hfk2 htk hdv hf hrow ht
      replace O := Go.Lib.hid O; replace hKp := Go.Lib.hid hKp; replace hB := Go.Lib.hid hB
      have hkI : (k : Int) < (L.length : Int) := by omega
      have hk0 : (0 : Int) ≤ (k : Int) := by omega
      have hkd : decide ((k : Int) < (L.length : Int)) = true := by simpa using hkI
      have hsw : w1.heap.size ≤ wr.heap.size := size_keep hKp.out
      go_wp2_with (first
        | go_skip
        | ((with_reducible refine wlAt 13 rfl ?_); refine wpList_ld1 204 _ rfl (by first | exact want_n rfl | exact want_g _ _ _ rfl rfl rfl) g _ rfl (cc * 1) f _ rw_pet Gr.out (by omega) ?_; simp only [Nat.zero_add, Nat.mul_one]; rw [FK.out])
        | ((with_reducible refine wlOp (.store 205 (.tmp 6) (.tmp 17)) rfl ?_); refine wpList_storeall rfl 205 (.tmp 6) (.tmp 17) rfl _ rfl 3 (drAt 0 0 0) (drAt x y n) rfl 205 size_td (heap_at _ _ _ rfl) (fun i _ => drAt_one _ _ _ i) ?_; rw [setRow_at _ _ _ _ _ rfl]; have X := Go.Lib.hid (heap_at wr (.cells (vrow 3 (drAt x y n)) 205) _ rfl); replace hKp := Go.Lib.hid (fun (g : Nat) X (h : w1.heap[g]? = some X) => heap_past wr (.cells (vrow 3 (drAt x y n)) 205) _ _ (row_lt (hKp.out g X h)) (hKp.out g X h)); replace O := Go.Lib.hid (O.out.alloc (.cells (vrow 3 (drAt x y n)) 205)); replace hB := Go.Lib.hid (hB.out.alloc hB.out.size (.cells (vrow 3 (drAt x y n)) 205)); clear Gr)
        | ((with_reducible refine wlAt 19 rfl ?_); refine wpList_loadall rfl 205 (.tmp 6) rfl wr.heap.size rfl 3 (drAt x y n) 205 _ Tryd.underlying205 rfl size_td X.out ?_)
        | (go_at_call 144; (refine (HD.out _).mono ?_); rintro o w3 ⟨rfl, hb⟩; have hs3 := hb.size; clear X; replace hKp := Go.Lib.hid (fun (g : Nat) X (h : w1.heap[g]? = some X) => row_next hb (hKp.out g X h)); replace O := Go.Lib.hid (O.out.kept (grown_next (grown_refl _ none) hb) (by cases hv : Value.ownBlock _ <;> simp)); replace hB := Go.Lib.hid (below_next hB.out hb); clear hb; rw [show (vrow 3 (drAt x y n)) = #[.int .i8 x, .int .i8 y, .int .u8 n] from rfl])
        | (at_builtin; refine wpList_append_own _ rfl (.tmp 18) (.tmp 21) 73 rfl w1.heap.size 66 i0 (.agg #[.int .i8 0, .int .i8 0, .int .u8 0]) 3 3 Tryd.underlying73 hi hz0 hz1 hz2 rfl (by decide) _ _ _ rfl (O.out.alloc _) ⟨w3.heap.size, 0, none⟩ 1 1 [.int .i8 x, .int .i8 y, .int .u8 n] rfl rfl (World.news_of_block (heap_at _ _ _ rfl)) (by simp [Value.oneCell']) (by simp only [maxLen]; omega) (by omega) (by simp at hs3; simp; omega) ?_; intro v' w4 hown' hgrow _))
      have hov := O.out.lt
      have lb := hB.out.size
      have hK4 : ∀ (g : Nat) X, w1.heap[g]? = some X → w4.heap[g]? = some X := fun g X h => (hgrow.block _ (by have := row_lt (hKp.out g X h); simp; omega) (fun e => by have := (hov _ e.symm).1; have := row_lt h; omega)).trans (heap_past _ _ _ _ (row_lt (hKp.out g X h)) (hKp.out g X h))
      have B1 : Below w.heap.size w w4 := (hB.out.alloc hB.out.size _).grown hgrow (by simp; omega) (fun q hq => by have := (hov q hq).1; omega)
      go_roundw
      case rel => exact ⟨k + 1, by omega, by go_num, by rw [HTK.out, List.length_append, dvals_app, HDV.out]; exact hown', hK4, B1⟩
      case measure => simp [intOf]; omega
    · obtain rfl : k = L.length := by omega
      rw [List.take_length] at O
      have hkd : decide ((L.length : Int) < (L.length : Int)) = false := by simp
      replace O := Go.Lib.hid O; replace hB := Go.Lib.hid hB
      go_wp2
      go_ret
      exact ⟨_, rfl, own_mono (by omega) O.out, hB.out⟩
end Go.Proofs.YtfgcpiipndhllaaDoor
