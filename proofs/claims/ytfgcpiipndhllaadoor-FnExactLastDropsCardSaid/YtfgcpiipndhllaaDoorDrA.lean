import Derived.Test.YtfgcpiipndhllaaDoorDab
import Derived.Test.YtfgcpiipndhllaaDoorDrS
import Derived.Test.YtfgcpiipndhllaaDoorOpenDr
namespace Go.Proofs.YtfgcpiipndhllaaDoor
open Go.RowKit
set_option maxRecDepth 100000
set_option linter.unusedVariables false
set_option linter.unusedSimpArgs false
theorem drAt_2 (x y n : Int) : drAt x y n 2 = .int .u8 n := rfl
theorem grown_tr {A B C : World} {row : Option Nat} (h : A.grownBy B row) (g : B.grownBy C row) : A.grownBy C row :=
  ⟨g.os.trans h.os, g.tape.trans h.tape, g.output.trans h.output, Nat.le_trans h.size g.size, fun k hk hne => (g.block k (Nat.lt_of_lt_of_le hk h.size) hne).trans (h.block k hk hne)⟩
theorem grown_row {A B : World} {row : Option Nat} {g : Nat} {x : Obj} (g0 : A.grownBy B row) (h : A.heap[g]? = some x) (hne : some g ≠ row) : B.heap[g]? = some x := (g0.block g (row_lt h) hne).trans h
theorem Pic.put_fit {p : Pic} (h : p.fit) (k : Nat) {v : Int} (hv : 0 ≤ v ∧ v ≤ 255) : (p.put k v).fit :=
  ⟨h.wide, h.high, fun i hi => by unfold Pic.put; simp only; split; exact hv; exact h.ink i hi⟩
theorem dab_fit {v : Int} (hv : 0 ≤ v ∧ v ≤ 255) (l : List Sp8) : ∀ {p : Pic}, p.fit → (dab p v l).fit := by
  induction l with
  | nil => intro p h; exact h
  | cons q l ih => intro p h; exact ih (Pic.put_fit h _ hv)
theorem dab_wide (v : Int) (l : List Sp8) : ∀ p : Pic, (dab p v l).wide = p.wide := by
  induction l with
  | nil => intro p; rfl
  | cons q l ih => intro p; exact ih _
theorem dab_high (v : Int) (l : List Sp8) : ∀ p : Pic, (dab p v l).high = p.high := by
  induction l with
  | nil => intro p; rfl
  | cons q l ih => intro p; exact ih _
/-- the picture behind the first k drops -/
def drpP (p : Pic) (a c : Nat) (px py pn : Nat → Int) : Nat → Pic
  | 0 => p
  | k + 1 => dab (drpP p a c px py pn k) (pn k + 1) (cov a c (px k) (py k))
theorem drpP_wide (p : Pic) (a c : Nat) (px py pn : Nat → Int) (k : Nat) : (drpP p a c px py pn k).wide = p.wide := by
  induction k with
  | zero => rfl
  | succ k ih => exact (dab_wide _ _ _).trans ih
theorem drpP_high (p : Pic) (a c : Nat) (px py pn : Nat → Int) (k : Nat) : (drpP p a c px py pn k).high = p.high := by
  induction k with
  | zero => rfl
  | succ k ih => exact (dab_high _ _ _).trans ih
/-- there are the cells and the inks of the first k drops -/
def canA (p : Pic) (px py pn : Nat → Int) : Nat → Bool
  | 0 => true
  | k + 1 => canA p px py pn k && canB p (px k) (py k) (pn k)
theorem canA_no {p : Pic} {px py pn : Nat → Int} {k n : Nat} (hk : k < n) (h : canB p (px k) (py k) (pn k) = false) : canA p px py pn n = false := by
  induction n with
  | zero => omega
  | succ n ih =>
    show (canA p px py pn n && _) = false
    by_cases e : k = n
    · rw [← e, h, Bool.and_false]
    · rw [ih (by omega), Bool.false_and]
theorem canA_lt {p : Pic} {px py pn : Nat → Int} {k n : Nat} (hk : k < n) (h : canA p px py pn n = true) : canB p (px k) (py k) (pn k) = true := by
  cases hc : canB p (px k) (py k) (pn k)
  · rw [canA_no hk hc] at h; cases h
  · rfl
theorem canB_nat {p : Pic} {a c : Nat} {x y n : Int} (ea : p.wide = a) (ec : p.high = c) (ha : a ≤ 8) (hc : c ≤ 8) (hn : 0 ≤ n) (h : canB p x y n = true) : ∃ i j k : Nat, x = i ∧ y = j ∧ n = k ∧ i < 8 ∧ j < 8 ∧ k ≤ 2 := by
  unfold canB hasP at h
  simp only [Bool.and_eq_true, decide_eq_true_eq] at h
  obtain ⟨h1, h2⟩ := h
  rw [ea, ec] at h1
  have := ins_lt h1 (by omega) (by omega)
  exact ⟨x.toNat, y.toNat, n.toNat, by omega, by omega, by omega, by omega, by omega, by omega⟩
theorem okP_nat2 {p : Pic} (h : okP p = true) : ∃ a c : Nat, p.wide = a ∧ p.high = c ∧ (1 ≤ a ∧ a ≤ 8) ∧ (1 ≤ c ∧ c ≤ 8) := by
  have := okP_size h; exact ⟨p.wide.toNat, p.high.toNat, by omega, by omega, by omega, by omega⟩
theorem canB_same {p q : Pic} (h1 : q.wide = p.wide) (h2 : q.high = p.high) (x y n : Int) : canB q x y n = canB p x y n := by unfold canB hasP; rw [h1, h2]
theorem canA_same {p q : Pic} (h1 : q.wide = p.wide) (h2 : q.high = p.high) (px py pn : Nat → Int) (k : Nat) : canA q px py pn k = canA p px py pn k := by
  induction k with
  | zero => rfl
  | succ k ih => show (canA q px py pn k && _) = (canA p px py pn k && _); rw [ih, canB_same h1 h2]
theorem drpP_fit {p : Pic} (hf : p.fit) (a c : Nat) (px py pn : Nat → Int) (k : Nat) (h : ∀ i, i < k → 0 ≤ pn i ∧ pn i ≤ 254) : (drpP p a c px py pn k).fit := by
  induction k with
  | zero => exact hf
  | succ k ih => have := h k (by omega); exact dab_fit (by omega) _ (ih fun i hi => h i (by omega))
set_option maxHeartbeats 1000000 in
theorem lcan_any (p : Pic) (b : Nat) (x y n : Int) (w : World) (hs : w.heap[b]? = some (.cells (vrow 66 p.at) 61)) (hf : p.fit) (hx : -128 ≤ x ∧ x ≤ 127) (hy : -128 ≤ y ∧ y ≤ 127) : Calls Tryd.prog 84 #[.pointer (some ⟨b, 0, none⟩), .agg (vrow 3 (drAt x y n))] w fun e w' => e = .returned (.bool (canB p x y n)) ∧ Below w.heap.size w w' := by
  have HI := Go.Lib.hid fun w h => pis_any p b x y w h hf hx hy
  have P : Hid ((w.alloc (.cells (vrow 3 (drAt x y n)) 66)).heap[b]? = some (.cells (vrow 66 p.at) 61)) := heap_past _ _ _ _ (row_lt hs) hs
  have R : Hid ((w.alloc (.cells (vrow 3 (drAt x y n)) 66)).heap[w.heap.size]? = some (.cells (vrow 3 (drAt x y n)) 66)) := (heap_at _ _ _ (by simp))
  have hB : Hid (Below w.heap.size w (w.alloc (.cells (vrow 3 (drAt x y n)) 66))) := Go.Lib.hid ((Below.refl w.heap.size w).alloc (by simp <;> omega) _)
  clear hs
  cases hq : hasP p x y
  · have HC := Go.Lib.hid (show canB p x y n = false by simp [canB, hq])
    rw [hq] at HI
    clear hq
    go_enter Tryd.func84, Tryd.ntmps84
    go_wp2_with (first
      | go_skip
      | ((with_reducible refine wlAt 7 rfl ?_); refine wpList_ldm 33 _ rfl (by first | exact want_n rfl | exact want_g _ _ _ rfl rfl rfl) (w.heap.size) _ rfl 3 2 (drAt x y n) _ rw_spot size_spot R.out (by omega) ?_; rw [dr_spot])
      | ((with_reducible refine wlAt 11 rfl ?_); refine wpList_ld1 5 _ rfl (by first | exact want_n rfl | exact want_g _ _ _ rfl rfl rfl) (w.heap.size) 2 rfl 3 (drAt x y n) _ rw_u8 R.out (by omega) ?_; (try rw [drAt_2]))
      | (go_at_call 135; (refine (HI.out _ P.out).mono ?_); rintro o w1 ⟨rfl, hb⟩; replace P := Go.Lib.hid (row_next hb P.out); replace R := Go.Lib.hid (row_next hb R.out); replace hB := Go.Lib.hid (below_next hB.out hb); clear hb))
    go_ret
    exact ⟨by rw [HC.out]; rfl, hB.out⟩
  · have HC := Go.Lib.hid (show canB p x y n = decide (n < 3) by simp [canB, hq])
    rw [hq] at HI
    clear hq
    go_enter Tryd.func84, Tryd.ntmps84
    go_wp2_with (first
      | go_skip
      | ((with_reducible refine wlAt 7 rfl ?_); refine wpList_ldm 33 _ rfl (by first | exact want_n rfl | exact want_g _ _ _ rfl rfl rfl) (w.heap.size) _ rfl 3 2 (drAt x y n) _ rw_spot size_spot R.out (by omega) ?_; rw [dr_spot])
      | ((with_reducible refine wlAt 11 rfl ?_); refine wpList_ld1 5 _ rfl (by first | exact want_n rfl | exact want_g _ _ _ rfl rfl rfl) (w.heap.size) 2 rfl 3 (drAt x y n) _ rw_u8 R.out (by omega) ?_; (try rw [drAt_2]))
      | (go_at_call 135; (refine (HI.out _ P.out).mono ?_); rintro o w1 ⟨rfl, hb⟩; replace P := Go.Lib.hid (row_next hb P.out); replace R := Go.Lib.hid (row_next hb R.out); replace hB := Go.Lib.hid (below_next hB.out hb); clear hb))
    go_ret
    exact ⟨by rw [HC.out]; rfl, hB.out⟩
set_option maxHeartbeats 1000000 in
theorem lall_bad (p : Pic) (b : Nat) (ao : Option Addr) (n cap : Nat) (w : World) (hs : w.heap[b]? = some (.cells (vrow 66 p.at) 61)) (hf : p.fit) (h1 : okP p = false) : Calls Tryd.prog 88 #[.pointer (some ⟨b, 0, none⟩), .slice ao n cap] w fun e w' => e = .returned (.int .i64 1) ∧ Below w.heap.size w w' := by
  have HO := Go.Lib.hid fun w' h => okP_from w' p b w' h hf (Below.refl _ _)
  rw [h1] at HO
  have P := Go.Lib.hid hs
  have hB := Go.Lib.hid (Below.refl w.heap.size w)
  clear hs
  go_enter Tryd.func88, Tryd.ntmps88
  go_wp2_with (first
    | go_skip
    | (go_at_call 83; (refine (HO.out _ P.out).mono ?_); rintro o w1 ⟨rfl, hb⟩; replace P := Go.Lib.hid (row_next hb P.out); replace hB := Go.Lib.hid (below_next hB.out hb); clear hb))
  go_ret
  exact ⟨rfl, hB.out⟩
set_option maxHeartbeats 1000000 in
theorem lall_lim (p : Pic) (b : Nat) (ao : Option Addr) (n cap : Nat) (w : World) (hs : w.heap[b]? = some (.cells (vrow 66 p.at) 61)) (hf : p.fit) (h1 : okP p = true) (hn : 100 < n) : Calls Tryd.prog 88 #[.pointer (some ⟨b, 0, none⟩), .slice ao n cap] w fun e w' => e = .returned (.int .i64 3) ∧ Below w.heap.size w w' := by
  have HO := Go.Lib.hid fun w' h => okP_from w' p b w' h hf (Below.refl _ _)
  rw [h1] at HO
  have P := Go.Lib.hid hs
  have hB := Go.Lib.hid (Below.refl w.heap.size w)
  have hd : decide ((100 : Int) < (n : Int)) = true := by simp; omega
  clear hs
  go_enter Tryd.func88, Tryd.ntmps88
  go_wp2_with (first
    | go_skip
    | (go_at_call 83; (refine (HO.out _ P.out).mono ?_); rintro o w1 ⟨rfl, hb⟩; replace P := Go.Lib.hid (row_next hb P.out); replace hB := Go.Lib.hid (below_next hB.out hb); clear hb))
  go_ret
  exact ⟨rfl, hB.out⟩
set_option maxRecDepth 100000 in
set_option maxHeartbeats 4000000 in
theorem lall_any (p : Pic) (b D n a c : Nat) (px py pn : Nat → Int) (w : World) (hs : w.heap[b]? = some (.cells (vrow 66 p.at) 61)) (hd : w.heap[D]? = some (.cells (vrow (n * 3) (drf px py pn)) 66)) (hne : D ≠ b) (hf : p.fit) (h1 : okP p = true) (ea : p.wide = a) (ec : p.high = c) (ha : a ≤ 8) (hc : c ≤ 8) (hn : n ≤ 100)
    (hpx : ∀ i, i < n → -128 ≤ px i ∧ px i ≤ 127) (hpy : ∀ i, i < n → -128 ≤ py i ∧ py i ≤ 127) (hpn : ∀ i, i < n → 0 ≤ pn i ∧ pn i ≤ 255) :
    Calls Tryd.prog 88 #[.pointer (some ⟨b, 0, none⟩), .slice (some ⟨D, 0, none⟩) n n] w fun e w' => w.grownBy w' (some b) ∧ ((canA p px py pn n = true ∧ e = .returned (.int .i64 0) ∧ w'.heap[b]? = some (.cells (drpP p a c px py pn n).row 61)) ∨ (canA p px py pn n = false ∧ e = .returned (.int .i64 2))) := by
  have HO := Go.Lib.hid fun w' h => okP_from w' p b w' h hf (Below.refl _ _)
  rw [h1] at HO
  have P := Go.Lib.hid hs; have R := Go.Lib.hid hd; have GB := Go.Lib.hid (grown_refl w (some b))
  have hdd : decide ((100 : Int) < (n : Int)) = false := by simp; omega
  clear hs hd
  go_enter Tryd.func88, Tryd.ntmps88
  go_wp2_with (first
    | go_skip
    | (go_at_call 83; (refine (HO.out _ P.out).mono ?_); rintro o w1 ⟨rfl, hb⟩; replace P := Go.Lib.hid (row_next hb P.out); replace R := Go.Lib.hid (row_next hb R.out); replace GB := Go.Lib.hid (grown_next GB.out hb); clear hb))
  go_loopw [5] (fun iv wr => ∃ k : Nat, k ≤ n ∧ iv = .int .i64 k ∧ canA p px py pn k = true ∧ wr.heap[b]? = some (.cells (drpP p a c px py pn k).row 61) ∧ wr.heap[D]? = some (.cells (vrow (n * 3) (drf px py pn)) 66) ∧ w.grownBy wr (some b)) (fun iv _ => n - (intOf iv).toNat)
  case atStart => exact ⟨0, by omega, rfl, rfl, P.out, R.out, GB.out⟩
  case round =>
    clear P R GB
    obtain ⟨k, hk, rfl, hcA, P, R, GB⟩ := hrel
    by_cases hlt : k < n
    · have hkI : (k : Int) < (n : Int) := by omega
      have hk0 : (0 : Int) ≤ (k : Int) := by omega
      have hnl : (n : Int) ≤ 100 := by omega
      have hkd : decide ((k : Int) < (n : Int)) = true := by simpa using hkI
      have hw1 := drpP_wide p a c px py pn k; have hh1 := drpP_high p a c px py pn k
      have hcan : ∀ i, i < k → canB p (px i) (py i) (pn i) = true := fun i hi => canA_lt hi hcA
      have hft : (drpP p a c px py pn k).fit := drpP_fit hf a c px py pn k fun i hi => by
        have h := hcan i hi
        have h0 := hpn i (by omega)
        unfold canB at h
        simp only [Bool.and_eq_true, decide_eq_true_eq] at h
        omega
      have HC := Go.Lib.hid fun w h => lcan_any (drpP p a c px py pn k) b (px k) (py k) (pn k) w h hft (hpx k hlt) (hpy k hlt)
      rw [canB_same hw1 hh1] at HC
      cases hq : canB p (px k) (py k) (pn k)
      · rw [hq] at HC
        have hno := Go.Lib.hid (canA_no hlt hq)
        clear hq hcan hft hw1 hh1
        replace P := Go.Lib.hid P; replace R := Go.Lib.hid R; replace GB := Go.Lib.hid GB
        generalize drpP p a c px py pn k = G at *
        go_wp2_with (first
          | go_skip
          | ((first | (with_reducible refine wlAt 22 rfl ?_) | (with_reducible refine wlAt 29 rfl ?_)); (first | refine wpList_loadmid rfl 66 (.tmp 21) rfl D (k * 3) rfl (n * 3) 3 (drf px py pn) 66 _ Tryd.underlying66 rfl size_dr R.out (by omega) ?_ | refine wpList_loadmid rfl 66 (.tmp 28) rfl D (k * 3) rfl (n * 3) 3 (drf px py pn) 66 _ Tryd.underlying66 rfl size_dr R.out (by omega) ?_); rw [drf_three])
          | (go_at_call 84; (refine (HC.out _ P.out).mono ?_); rintro o w1 ⟨rfl, hb⟩; replace P := Go.Lib.hid (row_next hb P.out); replace R := Go.Lib.hid (row_next hb R.out); replace GB := Go.Lib.hid (grown_next GB.out hb); clear hb))
        go_ret
        exact ⟨GB.out, .inr ⟨hno.out, rfl⟩⟩
      · obtain ⟨x, y, m, ex, ey, em, hx, hy, hm⟩ := canB_nat ea ec ha hc (hpn k hlt).1 hq
        have hyes := Go.Lib.hid (show canA p px py pn (k + 1) = true by show (canA p px py pn k && _) = true; rw [hcA, hq]; rfl)
        have HP2 := Go.Lib.hid (show drpP p a c px py pn (k + 1) = dab (drpP p a c px py pn k) ((m : Int) + 1) (cov a c x y) by show dab _ _ _ = _; rw [ex, ey, em])
        have HD := Go.Lib.hid fun w h => ldrop_any (drpP p a c px py pn k) b a c x y m w h hft (hw1.trans ea) (hh1.trans ec) ha hc hx hy hm
        rw [← ex, ← ey, ← em] at HD
        rw [← ex, ← ey, ← em] at HP2
        rw [hq] at HC
        clear hq hcan hw1 hh1 hcA ex ey em
        replace P := Go.Lib.hid P; replace R := Go.Lib.hid R; replace GB := Go.Lib.hid GB
        generalize drpP p a c px py pn k = G at *
        go_wp2_with (first
          | go_skip
          | ((first | (with_reducible refine wlAt 22 rfl ?_) | (with_reducible refine wlAt 29 rfl ?_)); (first | refine wpList_loadmid rfl 66 (.tmp 21) rfl D (k * 3) rfl (n * 3) 3 (drf px py pn) 66 _ Tryd.underlying66 rfl size_dr R.out (by omega) ?_ | refine wpList_loadmid rfl 66 (.tmp 28) rfl D (k * 3) rfl (n * 3) 3 (drf px py pn) 66 _ Tryd.underlying66 rfl size_dr R.out (by omega) ?_); rw [drf_three])
          | (go_at_call 84; (refine (HC.out _ P.out).mono ?_); rintro o w1 ⟨rfl, hb⟩; replace P := Go.Lib.hid (row_next hb P.out); replace R := Go.Lib.hid (row_next hb R.out); replace GB := Go.Lib.hid (grown_next GB.out hb); clear hb)
          | (go_at_call 85; (refine (HD.out _ P.out).mono ?_; rintro o w1 ⟨rfl, hP9, hg9⟩; replace P := Go.Lib.hid hP9; replace R := Go.Lib.hid (grown_row hg9 R.out (fun e => hne (by cases e; rfl))); replace GB := Go.Lib.hid (grown_tr GB.out hg9); clear hP9 hg9)))
        go_roundw
        case rel => exact ⟨k + 1, by omega, by go_num, hyes.out, by rw [HP2.out]; exact P.out, R.out, GB.out⟩
        case measure => simp [intOf]; omega
    · obtain rfl : k = n := by omega
      have hkd : decide ((k : Int) < (k : Int)) = false := by simp
      replace P := Go.Lib.hid P; replace GB := Go.Lib.hid GB; replace hcA := Go.Lib.hid hcA
      go_wp2
      go_ret
      exact ⟨GB.out, .inl ⟨hcA.out, rfl, P.out⟩⟩
end Go.Proofs.YtfgcpiipndhllaaDoor
