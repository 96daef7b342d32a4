import Derived.Test.YtfgcpiipndhllaaDoorDrB
import Derived.Test.YtfgcpiipndhllaaDoorPUnI
import Derived.Test.YtfgcpiipndhllaaDoorSamePic
import Derived.Test.YtfgcpiipndhllaaDoorCodeOf
namespace Go.Proofs.YtfgcpiipndhllaaDoor
open Go.RowKit
set_option maxRecDepth 100000
set_option linter.unusedVariables false
set_option linter.unusedSimpArgs false
attribute [local go_sem] Oper.semAt_some
set_option maxHeartbeats 1000000 in
theorem ck1_any (p : Pic) (b : Nat) (x y n : Int) (w : World) (hs : w.heap[b]? = some (.cells (vrow 66 p.at) 61)) : Calls Tryd.prog 138 #[.agg (vrow 3 (drAt x y n)), .pointer (some ⟨b, 0, none⟩)] w fun e w' => e = .returned (.bool (!canB p x y n)) ∧ Below w.heap.size w w' := by
  have HT := Go.Lib.hid fun w => takes_any p x y n w
  have P : Hid ((w.alloc (.cells (vrow 3 (drAt x y n)) 66)).heap[b]? = some (.cells (vrow 66 p.at) 61)) := heap_past _ _ _ _ (row_lt hs) hs
  have R : Hid ((w.alloc (.cells (vrow 3 (drAt x y n)) 66)).heap[w.heap.size]? = some (.cells (vrow 3 (drAt x y n)) 66)) := (heap_at _ _ _ (by simp))
  have hB : Hid (Below w.heap.size w (w.alloc (.cells (vrow 3 (drAt x y n)) 66))) := Go.Lib.hid ((Below.refl w.heap.size w).alloc (by simp <;> omega) _)
  clear hs
  generalize canB p x y n = v at *
  go_enter Tryd.func138, Tryd.ntmps138
  go_wp2_with (first
    | go_skip
    | ((with_reducible refine wlAt 4 rfl ?_); refine wpList_ldm 61 (.tmp 1) rfl (by first | exact want_n rfl | exact want_g _ _ _ rfl rfl rfl) (b) _ rfl 66 66 p.at _ rw_pic size_pic P.out (by omega) ?_; rw [pic_row])
    | ((with_reducible refine wlAt 5 rfl ?_); refine wpList_ldm 66 (.tmp 2) rfl (by first | exact want_n rfl | exact want_g _ _ _ rfl rfl rfl) (w.heap.size) _ rfl 3 3 (drAt x y n) _ rw_dr size_dr R.out (by omega) ?_; rw [dr_row0])
    | (go_at_call 139; (refine (HT.out _).mono ?_); rintro o w1 ⟨rfl, hb⟩; replace P := Go.Lib.hid (row_next hb P.out); replace R := Go.Lib.hid (row_next hb R.out); replace hB := Go.Lib.hid (below_next hB.out hb); clear hb))
  go_ret
  exact ⟨rfl, hB.out⟩
set_option maxHeartbeats 2000000 in
theorem idx_any (p : Pic) (b D n : Nat) (px py pn : Nat → Int) (w : World) (hs : w.heap[b]? = some (.cells (vrow 66 p.at) 61)) (hd : w.heap[D]? = some (.cells (vrow (n * 3) (drf px py pn)) 66)) (hn : n ≤ 100) : Calls Tryd.prog 175 #[.slice (some ⟨D, 0, none⟩) n n, .func (.func 138) #[] #[.pointer (some ⟨b, 0, none⟩)]] w fun e w' => (∃ r : Int, e = .returned (.int .i64 r) ∧ decide (0 ≤ r) = !canA p px py pn n) ∧ Below w.heap.size w w' := by
  have HC := Go.Lib.hid fun x y m w h => ck1_any p b x y m w h
  have P := Go.Lib.hid hs; have R := Go.Lib.hid hd; have hB := Go.Lib.hid (Below.refl w.heap.size w)
  clear hs hd
  go_enter Tryd.func175, Tryd.ntmps175
  go_wp2
  go_loopw [8] (fun iv wr => ∃ k : Nat, k ≤ n ∧ iv = .int .i64 k ∧ canA p px py pn k = true ∧ wr.heap[b]? = some (.cells (vrow 66 p.at) 61) ∧ wr.heap[D]? = some (.cells (vrow (n * 3) (drf px py pn)) 66) ∧ Below w.heap.size w wr) (fun iv _ => n - (intOf iv).toNat)
  case atStart => exact ⟨0, by omega, rfl, rfl, P.out, R.out, hB.out⟩
  case round =>
    clear P R hB
    obtain ⟨k, hk, rfl, hcA, P, R, hB⟩ := hrel
    by_cases hlt : k < n
    · have hkI : (k : Int) < (n : Int) := by omega
      have hk0 : (0 : Int) ≤ (k : Int) := by omega
      have hnl : (n : Int) ≤ 100 := by omega
      have hkd : decide ((k : Int) < (n : Int)) = true := by simpa using hkI
      replace HC := Go.Lib.hid fun w h => HC.out (px k) (py k) (pn k) w h
      replace P := Go.Lib.hid P; replace R := Go.Lib.hid R; replace hB := Go.Lib.hid hB
      have hst : canA p px py pn (k + 1) = (canA p px py pn k && canB p (px k) (py k) (pn k)) := rfl
      cases hq : canB p (px k) (py k) (pn k)
      · rw [hq] at HC
        have hno := Go.Lib.hid (canA_no hlt hq)
        clear hq hst
        go_wp2_with (first
          | go_skip
          | ((with_reducible refine wlAt 15 rfl ?_); refine wpList_loadmid rfl 66 (.tmp 14) rfl D (k * 3) rfl (n * 3) 3 (drf px py pn) 66 _ Tryd.underlying66 rfl size_dr R.out (by omega) ?_; rw [drf_three])
          | (go_at_call 138; (refine (HC.out _ P.out).mono ?_); rintro o w1 ⟨rfl, hb⟩; replace P := Go.Lib.hid (row_next hb P.out); replace R := Go.Lib.hid (row_next hb R.out); replace hB := Go.Lib.hid (below_next hB.out hb); clear hb))
        go_ret
        exact ⟨⟨_, rfl, by rw [hno.out]; simp⟩, hB.out⟩
      · rw [hq] at HC
        have hyes := Go.Lib.hid (show canA p px py pn (k + 1) = true by rw [hst, hcA, hq]; rfl)
        clear hq hst
        go_wp2_with (first
          | go_skip
          | ((with_reducible refine wlAt 15 rfl ?_); refine wpList_loadmid rfl 66 (.tmp 14) rfl D (k * 3) rfl (n * 3) 3 (drf px py pn) 66 _ Tryd.underlying66 rfl size_dr R.out (by omega) ?_; rw [drf_three])
          | (go_at_call 138; (refine (HC.out _ P.out).mono ?_); rintro o w1 ⟨rfl, hb⟩; replace P := Go.Lib.hid (row_next hb P.out); replace R := Go.Lib.hid (row_next hb R.out); replace hB := Go.Lib.hid (below_next hB.out hb); clear hb))
        go_roundw
        case rel => exact ⟨k + 1, by omega, by go_num, hyes.out, P.out, R.out, hB.out⟩
        case measure => simp [intOf]; omega
    · obtain rfl : k = n := by omega
      have hkd : decide ((k : Int) < (k : Int)) = false := by simp
      replace hcA := Go.Lib.hid hcA; replace hB := Go.Lib.hid hB
      go_wp2
      go_ret
      exact ⟨⟨_, rfl, by rw [hcA.out]; simp⟩, hB.out⟩
set_option maxHeartbeats 1000000 in
theorem con_any (p : Pic) (b D n : Nat) (px py pn : Nat → Int) (w : World) (hs : w.heap[b]? = some (.cells (vrow 66 p.at) 61)) (hd : w.heap[D]? = some (.cells (vrow (n * 3) (drf px py pn)) 66)) (hn : n ≤ 100) : Calls Tryd.prog 137 #[.slice (some ⟨D, 0, none⟩) n n, .func (.func 138) #[] #[.pointer (some ⟨b, 0, none⟩)]] w fun e w' => e = .returned (.bool (!canA p px py pn n)) ∧ Below w.heap.size w w' := by
  have HI := Go.Lib.hid (idx_any p b D n px py pn w hs hd hn)
  have hB := Go.Lib.hid (Below.refl w.heap.size w)
  clear hs hd
  generalize canA p px py pn n = v at *
  go_enter Tryd.func137, Tryd.ntmps137
  go_wp2_with (first
    | go_skip
    | (go_at_call 175; (refine HI.out.mono ?_); rintro o w1 ⟨⟨r, rfl, hr⟩, hb⟩; replace hB := Go.Lib.hid (below_next hB.out hb); clear hb))
  go_ret
  exact ⟨rfl, hB.out⟩
set_option maxHeartbeats 1000000 in
theorem ckAll_bad (p : Pic) (D n : Nat) (px py pn : Nat → Int) (hf : p.fit) (hv : okP p = false) (e : ErrE) (w : World) (hE : Errs e w) (hd : w.heap[D]? = some (.cells (vrow (n * 3) (drf px py pn)) 66)) : Calls Tryd.prog 89 #[.agg p.row, .slice (some ⟨D, 0, none⟩) n n] w fun o w' => o = .returned (errP e 1) ∧ Below w.heap.size w w' := by
  have HV := Go.Lib.hid fun w hE => ckPic_bad p hf hv e w hE
  have P : Hid ((w.alloc (.cells (vrow 66 p.at) 61)).heap[w.heap.size]? = some (.cells (vrow 66 p.at) 61)) := (heap_at _ _ _ (by simp))
  have hB : Hid (Below w.heap.size w (w.alloc (.cells (vrow 66 p.at) 61))) := Go.Lib.hid ((Below.refl w.heap.size w).alloc (by simp <;> omega) _)
  have E : Hid (Errs e (w.alloc (.cells (vrow 66 p.at) 61))) := Go.Lib.hid (hE.alloc _)
  have R : Hid ((w.alloc (.cells (vrow 66 p.at) 61)).heap[D]? = some (.cells (vrow (n * 3) (drf px py pn)) 66)) := heap_past _ _ _ _ (row_lt hd) hd
  clear hd
  go_enter Tryd.func89, Tryd.ntmps89
  go_wp2_with (first
    | go_skip
    | ((with_reducible refine wlAt 6 rfl ?_); refine wpList_ldm 61 (.tmp 2) rfl (by first | exact want_n rfl | exact want_g _ _ _ rfl rfl rfl) (w.heap.size) _ rfl 66 66 p.at _ rw_pic size_pic P.out (by omega) ?_; rw [pic_row])
    | (go_at_call 98; (refine (HV.out _ E.out).mono ?_); rintro o w1 ⟨rfl, hb⟩; replace P := Go.Lib.hid (row_next hb P.out); replace R := Go.Lib.hid (row_next hb R.out); replace hB := Go.Lib.hid (below_next hB.out hb); replace E := Go.Lib.hid (E.out.next hb); clear hb))
  go_ret
  exact ⟨rfl, hB.out⟩
set_option maxHeartbeats 1000000 in
theorem ckAll_lim (p : Pic) (D n : Nat) (px py pn : Nat → Int) (hf : p.fit) (hv : okP p = true) (hn : 100 < n) (e : ErrE) (w : World) (hE : Errs e w) (hd : w.heap[D]? = some (.cells (vrow (n * 3) (drf px py pn)) 66)) : Calls Tryd.prog 89 #[.agg p.row, .slice (some ⟨D, 0, none⟩) n n] w fun o w' => o = .returned (errP e 3) ∧ Below w.heap.size w w' := by
  have HV := Go.Lib.hid fun w hE => ckPic_ok p hf hv e w hE
  have hd1 : decide ((100 : Int) < (n : Int)) = true := by simp; omega
  have P : Hid ((w.alloc (.cells (vrow 66 p.at) 61)).heap[w.heap.size]? = some (.cells (vrow 66 p.at) 61)) := (heap_at _ _ _ (by simp))
  have hB : Hid (Below w.heap.size w (w.alloc (.cells (vrow 66 p.at) 61))) := Go.Lib.hid ((Below.refl w.heap.size w).alloc (by simp <;> omega) _)
  have E : Hid (Errs e (w.alloc (.cells (vrow 66 p.at) 61))) := Go.Lib.hid (hE.alloc _)
  have R : Hid ((w.alloc (.cells (vrow 66 p.at) 61)).heap[D]? = some (.cells (vrow (n * 3) (drf px py pn)) 66)) := heap_past _ _ _ _ (row_lt hd) hd
  clear hd
  go_enter Tryd.func89, Tryd.ntmps89
  go_wp2_with (first
    | go_skip
    | ((with_reducible refine wlAt 6 rfl ?_); refine wpList_ldm 61 (.tmp 2) rfl (by first | exact want_n rfl | exact want_g _ _ _ rfl rfl rfl) (w.heap.size) _ rfl 66 66 p.at _ rw_pic size_pic P.out (by omega) ?_; rw [pic_row])
    | (go_at_call 98; (refine (HV.out _ E.out).mono ?_); rintro o w1 ⟨rfl, hb⟩; replace P := Go.Lib.hid (row_next hb P.out); replace R := Go.Lib.hid (row_next hb R.out); replace hB := Go.Lib.hid (below_next hB.out hb); replace E := Go.Lib.hid (E.out.next hb); clear hb)
    | ((with_reducible refine wlOp (.load 107 (.global 2)) rfl ?_); refine wpList_ld1 107 _ rfl (by first | exact want_n rfl | exact want_g _ _ _ rfl rfl rfl) 2 0 rfl 1 (fun _ => errP e 3) _ rw_err E.out.v3 (by omega) ?_))
  go_ret
  exact ⟨rfl, hB.out⟩
set_option maxHeartbeats 1000000 in
theorem ckAll_rng (p : Pic) (D n : Nat) (px py pn : Nat → Int) (hf : p.fit) (hv : okP p = true) (hn : n ≤ 100) (hcan : canA p px py pn n = false) (e : ErrE) (w : World) (hE : Errs e w) (hd : w.heap[D]? = some (.cells (vrow (n * 3) (drf px py pn)) 66)) : Calls Tryd.prog 89 #[.agg p.row, .slice (some ⟨D, 0, none⟩) n n] w fun o w' => o = .returned (errP e 2) ∧ Below w.heap.size w w' := by
  have HV := Go.Lib.hid fun w hE => ckPic_ok p hf hv e w hE
  have HK := Go.Lib.hid fun W h1 h2 => con_any p w.heap.size D n px py pn W h1 h2 hn
  rw [hcan] at HK
  have hd1 : decide ((100 : Int) < (n : Int)) = false := by simp; omega
  have P : Hid ((w.alloc (.cells (vrow 66 p.at) 61)).heap[w.heap.size]? = some (.cells (vrow 66 p.at) 61)) := (heap_at _ _ _ (by simp))
  have hB : Hid (Below w.heap.size w (w.alloc (.cells (vrow 66 p.at) 61))) := Go.Lib.hid ((Below.refl w.heap.size w).alloc (by simp <;> omega) _)
  have E : Hid (Errs e (w.alloc (.cells (vrow 66 p.at) 61))) := Go.Lib.hid (hE.alloc _)
  have R : Hid ((w.alloc (.cells (vrow 66 p.at) 61)).heap[D]? = some (.cells (vrow (n * 3) (drf px py pn)) 66)) := heap_past _ _ _ _ (row_lt hd) hd
  clear hd
  go_enter Tryd.func89, Tryd.ntmps89
  go_wp2_with (first
    | go_skip
    | ((with_reducible refine wlAt 6 rfl ?_); refine wpList_ldm 61 (.tmp 2) rfl (by first | exact want_n rfl | exact want_g _ _ _ rfl rfl rfl) (w.heap.size) _ rfl 66 66 p.at _ rw_pic size_pic P.out (by omega) ?_; rw [pic_row])
    | (go_at_call 98; (refine (HV.out _ E.out).mono ?_); rintro o w1 ⟨rfl, hb⟩; replace P := Go.Lib.hid (row_next hb P.out); replace R := Go.Lib.hid (row_next hb R.out); replace hB := Go.Lib.hid (below_next hB.out hb); replace E := Go.Lib.hid (E.out.next hb); clear hb)
    | (go_at_call 137; (refine (HK.out _ P.out R.out).mono ?_); rintro o w1 ⟨rfl, hb⟩; replace P := Go.Lib.hid (row_next hb P.out); replace R := Go.Lib.hid (row_next hb R.out); replace hB := Go.Lib.hid (below_next hB.out hb); replace E := Go.Lib.hid (E.out.next hb); clear hb)
    | ((with_reducible refine wlOp (.load 107 (.global 1)) rfl ?_); refine wpList_ld1 107 _ rfl (by first | exact want_n rfl | exact want_g _ _ _ rfl rfl rfl) 1 0 rfl 1 (fun _ => errP e 2) _ rw_err E.out.v2 (by omega) ?_))
  go_ret
  exact ⟨rfl, hB.out⟩
set_option maxHeartbeats 1000000 in
theorem ckAll_ok (p : Pic) (D n : Nat) (px py pn : Nat → Int) (hf : p.fit) (hv : okP p = true) (hn : n ≤ 100) (hcan : canA p px py pn n = true) (e : ErrE) (w : World) (hE : Errs e w) (hd : w.heap[D]? = some (.cells (vrow (n * 3) (drf px py pn)) 66)) : Calls Tryd.prog 89 #[.agg p.row, .slice (some ⟨D, 0, none⟩) n n] w fun o w' => o = .returned .nilIface ∧ Below w.heap.size w w' := by
  have HV := Go.Lib.hid fun w hE => ckPic_ok p hf hv e w hE
  have HK := Go.Lib.hid fun W h1 h2 => con_any p w.heap.size D n px py pn W h1 h2 hn
  rw [hcan] at HK
  have hd1 : decide ((100 : Int) < (n : Int)) = false := by simp; omega
  have P : Hid ((w.alloc (.cells (vrow 66 p.at) 61)).heap[w.heap.size]? = some (.cells (vrow 66 p.at) 61)) := (heap_at _ _ _ (by simp))
  have hB : Hid (Below w.heap.size w (w.alloc (.cells (vrow 66 p.at) 61))) := Go.Lib.hid ((Below.refl w.heap.size w).alloc (by simp <;> omega) _)
  have E : Hid (Errs e (w.alloc (.cells (vrow 66 p.at) 61))) := Go.Lib.hid (hE.alloc _)
  have R : Hid ((w.alloc (.cells (vrow 66 p.at) 61)).heap[D]? = some (.cells (vrow (n * 3) (drf px py pn)) 66)) := heap_past _ _ _ _ (row_lt hd) hd
  clear hd
  go_enter Tryd.func89, Tryd.ntmps89
  go_wp2_with (first
    | go_skip
    | ((with_reducible refine wlAt 6 rfl ?_); refine wpList_ldm 61 (.tmp 2) rfl (by first | exact want_n rfl | exact want_g _ _ _ rfl rfl rfl) (w.heap.size) _ rfl 66 66 p.at _ rw_pic size_pic P.out (by omega) ?_; rw [pic_row])
    | (go_at_call 98; (refine (HV.out _ E.out).mono ?_); rintro o w1 ⟨rfl, hb⟩; replace P := Go.Lib.hid (row_next hb P.out); replace R := Go.Lib.hid (row_next hb R.out); replace hB := Go.Lib.hid (below_next hB.out hb); replace E := Go.Lib.hid (E.out.next hb); clear hb)
    | (go_at_call 137; (refine (HK.out _ P.out R.out).mono ?_); rintro o w1 ⟨rfl, hb⟩; replace P := Go.Lib.hid (row_next hb P.out); replace R := Go.Lib.hid (row_next hb R.out); replace hB := Go.Lib.hid (below_next hB.out hb); replace E := Go.Lib.hid (E.out.next hb); clear hb))
  go_ret
  exact ⟨rfl, hB.out⟩
/-- why drops are refused -/
def badD (p : Pic) (px py pn : Nat → Int) (n : Nat) (k : Int) : Prop := (okP p = false ∧ k = 1) ∨ (okP p = true ∧ 100 < n ∧ k = 3) ∨ (okP p = true ∧ n ≤ 100 ∧ canA p px py pn n = false ∧ k = 2)
theorem ckAll_err (p : Pic) (D n : Nat) (px py pn : Nat → Int) (k : Int) (hf : p.fit) (h : badD p px py pn n k) (e : ErrE) (w : World) (hE : Errs e w) (hd : w.heap[D]? = some (.cells (vrow (n * 3) (drf px py pn)) 66)) : Calls Tryd.prog 89 #[.agg p.row, .slice (some ⟨D, 0, none⟩) n n] w fun o w' => (o = .returned (errP e k.toNat) ∧ (k = 1 ∨ k = 2 ∨ k = 3)) ∧ Below w.heap.size w w' := by
  rcases h with ⟨h1, rfl⟩ | ⟨h1, h2, rfl⟩ | ⟨h1, h2, h3, rfl⟩
  · exact (ckAll_bad p D n px py pn hf h1 e w hE hd).mono fun o w' ⟨g1, g2⟩ => ⟨⟨g1, by simp⟩, g2⟩
  · exact (ckAll_lim p D n px py pn hf h1 h2 e w hE hd).mono fun o w' ⟨g1, g2⟩ => ⟨⟨g1, by simp⟩, g2⟩
  · exact (ckAll_rng p D n px py pn hf h1 h2 h3 e w hE hd).mono fun o w' ⟨g1, g2⟩ => ⟨⟨g1, by simp⟩, g2⟩
theorem codeOf_k (k : Int) (hk : k = 1 ∨ k = 2 ∨ k = 3) (e : ErrE) (w : World) (hE : Errs e w) : Calls Tryd.prog 62 #[errP e k.toNat] w fun o w' => o = .returned (.int .i64 k) ∧ Below w.heap.size w w' := by
  rcases hk with rfl | rfl | rfl
  · exact codeOf_1 e w hE
  · exact codeOf_2 e w hE
  · exact codeOf_3 e w hE
theorem errP_not_nil (e : ErrE) (k : Nat) : errP e k ≠ .nilIface := by unfold errP; simp
theorem pbuilt_zero : Tryd.prog.built 61 [] = some Pic.zero.row := by kernel_rfl
end Go.Proofs.YtfgcpiipndhllaaDoor
namespace Go.Proofs.YtfgcpiipndhllaaDoor
open Go.RowKit
set_option linter.unusedVariables false
set_option linter.unusedSimpArgs false
theorem belowG {w A B : World} {b : Nat} (h : Below w.heap.size w A) (g : A.grownBy B (some b)) (hb : w.heap.size ≤ b) : Below w.heap.size w B :=
  h.grown g h.size (fun q hq => by cases hq; exact hb)
set_option maxHeartbeats 2000000 in
theorem specAll_err (p : Pic) (D n : Nat) (px py pn : Nat → Int) (k : Int) (w : World) (hf : p.fit) (hpx : ∀ i, i < n → -128 ≤ px i ∧ px i ≤ 127) (hpy : ∀ i, i < n → -128 ≤ py i ∧ py i ≤ 127) (hpn : ∀ i, i < n → 0 ≤ pn i ∧ pn i ≤ 255) (h : badD p px py pn n k) (hd : w.heap[D]? = some (.cells (vrow (n * 3) (drf px py pn)) 66)) : Calls Tryd.prog 33 #[.agg p.row, .slice (some ⟨D, 0, none⟩) n n] w fun o w' => o = .returned (.tuple #[.agg Pic.zero.row, .int .i64 k]) ∧ Below w.heap.size w w' := by
  have hDl := row_lt hd
  have zz := zero_pic
  have P : Hid (((w.alloc (.cells (vrow 66 p.at) 61)).alloc (.cells (vrow 66 Pic.zero.at) 61)).heap[w.heap.size]? = some (.cells (vrow 66 p.at) 61)) := (heap_past _ _ _ _ (by simp <;> omega) (heap_at _ _ _ (by simp)))
  have Z : Hid (((w.alloc (.cells (vrow 66 p.at) 61)).alloc (.cells (vrow 66 Pic.zero.at) 61)).heap[w.heap.size + 1]? = some (.cells (vrow 66 Pic.zero.at) 61)) := (heap_at _ _ _ (by simp))
  have hB : Hid (Below w.heap.size w ((w.alloc (.cells (vrow 66 p.at) 61)).alloc (.cells (vrow 66 Pic.zero.at) 61))) := Go.Lib.hid (((Below.refl w.heap.size w).alloc (by simp <;> omega) _).alloc (by simp <;> omega) _)
  have R : Hid (((w.alloc (.cells (vrow 66 p.at) 61)).alloc (.cells (vrow 66 Pic.zero.at) 61)).heap[D]? = some (.cells (vrow (n * 3) (drf px py pn)) 66)) := heap_past _ _ _ _ (by simp; omega) (heap_past _ _ _ _ hDl hd)
  clear hd
  have HL : Hid (∀ W, W.heap[w.heap.size]? = some (.cells (vrow 66 p.at) 61) → W.heap[D]? = some (.cells (vrow (n * 3) (drf px py pn)) 66) → Calls Tryd.prog 88 #[.pointer (some ⟨w.heap.size, 0, none⟩), .slice (some ⟨D, 0, none⟩) n n] W fun o w' => W.grownBy w' (some w.heap.size) ∧ o = .returned (.int .i64 k)) := Go.Lib.hid fun W h1 h2 => by
    rcases h with ⟨g1, rfl⟩ | ⟨g1, g2, rfl⟩ | ⟨g1, g2, g3, rfl⟩
    · exact (lall_bad p _ _ n n W h1 hf g1).mono fun o w' ⟨e1, e2⟩ => ⟨grown_next (grown_refl _ _) e2, e1⟩
    · exact (lall_lim p _ _ n n W h1 hf g1 g2).mono fun o w' ⟨e1, e2⟩ => ⟨grown_next (grown_refl _ _) e2, e1⟩
    · obtain ⟨a, c, ea, ec, ha, hc⟩ := okP_nat2 g1
      refine (lall_any p _ D n a c px py pn W h1 h2 (by omega) hf g1 ea ec ha.2 hc.2 g2 hpx hpy hpn).mono ?_
      rintro o w' ⟨e1, ⟨e2, _⟩ | ⟨_, e3⟩⟩
      · rw [g3] at e2; cases e2
      · exact ⟨e1, e3⟩
  have hk : k = 1 ∨ k = 2 ∨ k = 3 := by rcases h with ⟨_, rfl⟩ | ⟨_, _, rfl⟩ | ⟨_, _, _, rfl⟩ <;> simp
  clear h
  rcases hk with rfl | rfl | rfl
  · skip
    go_enter Tryd.func33, Tryd.ntmps33
    go_wp2_with (first
      | go_skip
      | (go_at_call 88; (refine (HL.out _ P.out R.out).mono ?_); rintro o w1 ⟨hg, rfl⟩; replace Z := Go.Lib.hid (grown_row hg Z.out (by simp)); replace hB := Go.Lib.hid (belowG hB.out hg (by omega)); clear hg P R)
      | ((with_reducible refine wlAt 11 rfl ?_); refine wpList_built rfl 61 [] rfl [] (by rfl) _ pbuilt_zero ?_)
      | ((with_reducible refine wlOp (.store 61 (.tmp 4) (.tmp 11)) rfl ?_); refine wpList_storeall rfl 61 (.tmp 4) (.tmp 11) rfl (w.heap.size + 1) rfl 66 Pic.zero.at Pic.zero.at rfl 61 size_pic Z.out (fun i _ => Pic.one _ i) ?_; replace Z := Go.Lib.hid (row_set Z.out (vrow 66 Pic.zero.at)); replace hB := Go.Lib.hid (Below_setRow hB.out (show w.heap.size ≤ w.heap.size + 1 by omega) (vrow 66 Pic.zero.at))))
    exact ret_row2 Tryd.results33 (w.heap.size + 1) 66 Pic.zero.at 61 _ Tryd.underlying61 rfl size_pic (.int .i64 1) rfl rfl rfl Z.out ⟨rfl, hB.out⟩
  · skip
    go_enter Tryd.func33, Tryd.ntmps33
    go_wp2_with (first
      | go_skip
      | (go_at_call 88; (refine (HL.out _ P.out R.out).mono ?_); rintro o w1 ⟨hg, rfl⟩; replace Z := Go.Lib.hid (grown_row hg Z.out (by simp)); replace hB := Go.Lib.hid (belowG hB.out hg (by omega)); clear hg P R)
      | ((with_reducible refine wlAt 11 rfl ?_); refine wpList_built rfl 61 [] rfl [] (by rfl) _ pbuilt_zero ?_)
      | ((with_reducible refine wlOp (.store 61 (.tmp 4) (.tmp 11)) rfl ?_); refine wpList_storeall rfl 61 (.tmp 4) (.tmp 11) rfl (w.heap.size + 1) rfl 66 Pic.zero.at Pic.zero.at rfl 61 size_pic Z.out (fun i _ => Pic.one _ i) ?_; replace Z := Go.Lib.hid (row_set Z.out (vrow 66 Pic.zero.at)); replace hB := Go.Lib.hid (Below_setRow hB.out (show w.heap.size ≤ w.heap.size + 1 by omega) (vrow 66 Pic.zero.at))))
    exact ret_row2 Tryd.results33 (w.heap.size + 1) 66 Pic.zero.at 61 _ Tryd.underlying61 rfl size_pic (.int .i64 2) rfl rfl rfl Z.out ⟨rfl, hB.out⟩
  · skip
    go_enter Tryd.func33, Tryd.ntmps33
    go_wp2_with (first
      | go_skip
      | (go_at_call 88; (refine (HL.out _ P.out R.out).mono ?_); rintro o w1 ⟨hg, rfl⟩; replace Z := Go.Lib.hid (grown_row hg Z.out (by simp)); replace hB := Go.Lib.hid (belowG hB.out hg (by omega)); clear hg P R)
      | ((with_reducible refine wlAt 11 rfl ?_); refine wpList_built rfl 61 [] rfl [] (by rfl) _ pbuilt_zero ?_)
      | ((with_reducible refine wlOp (.store 61 (.tmp 4) (.tmp 11)) rfl ?_); refine wpList_storeall rfl 61 (.tmp 4) (.tmp 11) rfl (w.heap.size + 1) rfl 66 Pic.zero.at Pic.zero.at rfl 61 size_pic Z.out (fun i _ => Pic.one _ i) ?_; replace Z := Go.Lib.hid (row_set Z.out (vrow 66 Pic.zero.at)); replace hB := Go.Lib.hid (Below_setRow hB.out (show w.heap.size ≤ w.heap.size + 1 by omega) (vrow 66 Pic.zero.at))))
    exact ret_row2 Tryd.results33 (w.heap.size + 1) 66 Pic.zero.at 61 _ Tryd.underlying61 rfl size_pic (.int .i64 3) rfl rfl rfl Z.out ⟨rfl, hB.out⟩
set_option maxHeartbeats 2000000 in
theorem specAll_ok (p : Pic) (D n a c : Nat) (px py pn : Nat → Int) (w : World) (hf : p.fit) (hpx : ∀ i, i < n → -128 ≤ px i ∧ px i ≤ 127) (hpy : ∀ i, i < n → -128 ≤ py i ∧ py i ≤ 127) (hpn : ∀ i, i < n → 0 ≤ pn i ∧ pn i ≤ 255) (h1 : okP p = true) (hn : n ≤ 100) (hcan : canA p px py pn n = true) (ea : p.wide = a) (ec : p.high = c) (ha : a ≤ 8) (hc : c ≤ 8) (hd : w.heap[D]? = some (.cells (vrow (n * 3) (drf px py pn)) 66)) : Calls Tryd.prog 33 #[.agg p.row, .slice (some ⟨D, 0, none⟩) n n] w fun o w' => o = .returned (.tuple #[.agg (drpP p a c px py pn n).row, .int .i64 0]) ∧ Below w.heap.size w w' := by
  have hDl := row_lt hd
  have zz := zero_pic
  have P : Hid (((w.alloc (.cells (vrow 66 p.at) 61)).alloc (.cells (vrow 66 Pic.zero.at) 61)).heap[w.heap.size]? = some (.cells (vrow 66 p.at) 61)) := (heap_past _ _ _ _ (by simp <;> omega) (heap_at _ _ _ (by simp)))
  have Z : Hid (((w.alloc (.cells (vrow 66 p.at) 61)).alloc (.cells (vrow 66 Pic.zero.at) 61)).heap[w.heap.size + 1]? = some (.cells (vrow 66 Pic.zero.at) 61)) := (heap_at _ _ _ (by simp))
  have hB : Hid (Below w.heap.size w ((w.alloc (.cells (vrow 66 p.at) 61)).alloc (.cells (vrow 66 Pic.zero.at) 61))) := Go.Lib.hid (((Below.refl w.heap.size w).alloc (by simp <;> omega) _).alloc (by simp <;> omega) _)
  have R : Hid (((w.alloc (.cells (vrow 66 p.at) 61)).alloc (.cells (vrow 66 Pic.zero.at) 61)).heap[D]? = some (.cells (vrow (n * 3) (drf px py pn)) 66)) := heap_past _ _ _ _ (by simp; omega) (heap_past _ _ _ _ hDl hd)
  clear hd
  have HL : Hid (∀ W, W.heap[w.heap.size]? = some (.cells (vrow 66 p.at) 61) → W.heap[D]? = some (.cells (vrow (n * 3) (drf px py pn)) 66) → Calls Tryd.prog 88 #[.pointer (some ⟨w.heap.size, 0, none⟩), .slice (some ⟨D, 0, none⟩) n n] W fun o w' => W.grownBy w' (some w.heap.size) ∧ o = .returned (.int .i64 0) ∧ w'.heap[w.heap.size]? = some (.cells (drpP p a c px py pn n).row 61)) := Go.Lib.hid fun W h2 h3 => by
    refine (lall_any p _ D n a c px py pn W h2 h3 (by omega) hf h1 ea ec ha hc hn hpx hpy hpn).mono ?_
    rintro o w' ⟨e1, ⟨_, e2, e3⟩ | ⟨e2, _⟩⟩
    · exact ⟨e1, e2, e3⟩
    · rw [hcan] at e2; cases e2
  obtain ⟨G, hG⟩ : ∃ G, drpP p a c px py pn n = G := ⟨_, rfl⟩
  rw [hG] at HL ⊢
  clear hG
  go_enter Tryd.func33, Tryd.ntmps33
  go_wp2_with (first
    | go_skip
    | (go_at_call 88; (refine (HL.out _ P.out R.out).mono ?_); rintro o w1 ⟨hg, rfl, hP⟩; replace Z := Go.Lib.hid (grown_row hg Z.out (by simp)); replace hB := Go.Lib.hid (belowG hB.out hg (by omega)); clear hg P R; have P := Go.Lib.hid hP; clear hP)
    | ((with_reducible refine wlAt 13 rfl ?_); refine wpList_ldm 61 (.tmp 2) rfl (by first | exact want_n rfl | exact want_g _ _ _ rfl rfl rfl) (w.heap.size) _ rfl 66 66 G.at _ rw_pic size_pic P.out (by omega) ?_; rw [pic_row])
    | ((with_reducible refine wlOp (.store 61 (.tmp 4) (.tmp 13)) rfl ?_); refine wpList_storeall rfl 61 (.tmp 4) (.tmp 13) rfl (w.heap.size + 1) rfl 66 Pic.zero.at G.at rfl 61 size_pic Z.out (fun i _ => Pic.one _ i) ?_; replace Z := Go.Lib.hid (row_set Z.out (vrow 66 G.at)); replace hB := Go.Lib.hid (Below_setRow hB.out (show w.heap.size ≤ w.heap.size + 1 by omega) (vrow 66 G.at))))
  exact ret_row2 Tryd.results33 (w.heap.size + 1) 66 G.at 61 _ Tryd.underlying61 rfl size_pic (.int .i64 0) rfl rfl rfl Z.out ⟨rfl, hB.out⟩
set_option maxHeartbeats 2000000 in
theorem implAll_err (p : Pic) (D n : Nat) (px py pn : Nat → Int) (k : Int) (hf : p.fit) (h : badD p px py pn n k) (e : ErrE) (w : World) (hE : Errs e w) (hd : w.heap[D]? = some (.cells (vrow (n * 3) (drf px py pn)) 66)) : Calls Tryd.prog 35 #[.agg p.row, .slice (some ⟨D, 0, none⟩) n n] w fun o w' => o = .returned (.tuple #[.agg Pic.zero.row, .int .i64 k]) ∧ Below w.heap.size w w' := by
  have hDl := row_lt hd
  have zz := zero_pic
  have P : Hid (((w.alloc (.cells (vrow 66 p.at) 61)).alloc (.cells (vrow 66 Pic.zero.at) 61)).heap[w.heap.size]? = some (.cells (vrow 66 p.at) 61)) := (heap_past _ _ _ _ (by simp <;> omega) (heap_at _ _ _ (by simp)))
  have Z : Hid (((w.alloc (.cells (vrow 66 p.at) 61)).alloc (.cells (vrow 66 Pic.zero.at) 61)).heap[w.heap.size + 1]? = some (.cells (vrow 66 Pic.zero.at) 61)) := (heap_at _ _ _ (by simp))
  have hB : Hid (Below w.heap.size w ((w.alloc (.cells (vrow 66 p.at) 61)).alloc (.cells (vrow 66 Pic.zero.at) 61))) := Go.Lib.hid (((Below.refl w.heap.size w).alloc (by simp <;> omega) _).alloc (by simp <;> omega) _)
  have E : Hid (Errs e ((w.alloc (.cells (vrow 66 p.at) 61)).alloc (.cells (vrow 66 Pic.zero.at) 61))) := Go.Lib.hid ((hE.alloc _).alloc _)
  have R : Hid (((w.alloc (.cells (vrow 66 p.at) 61)).alloc (.cells (vrow 66 Pic.zero.at) 61)).heap[D]? = some (.cells (vrow (n * 3) (drf px py pn)) 66)) := heap_past _ _ _ _ (by simp; omega) (heap_past _ _ _ _ hDl hd)
  clear hd
  have hk : k = 1 ∨ k = 2 ∨ k = 3 := by rcases h with ⟨_, rfl⟩ | ⟨_, _, rfl⟩ | ⟨_, _, _, rfl⟩ <;> simp
  rcases hk with rfl | rfl | rfl
  · have HC : Hid (∀ W, Errs e W → W.heap[D]? = some (.cells (vrow (n * 3) (drf px py pn)) 66) → Calls Tryd.prog 89 #[.agg p.row, .slice (some ⟨D, 0, none⟩) n n] W fun o w' => o = .returned (errP e 1) ∧ Below W.heap.size W w') := Go.Lib.hid fun W h1 h2 => (ckAll_err p D n px py pn 1 hf h e W h1 h2).mono fun o w' ⟨⟨g, _⟩, g2⟩ => ⟨g, g2⟩
    have HK := Go.Lib.hid fun W h1 => codeOf_1 e W h1
    clear h
    go_enter Tryd.func35, Tryd.ntmps35
    go_wp2_with (first
      | go_skip
      | ((with_reducible refine wlAt 7 rfl ?_); refine wpList_ldm 61 (.tmp 2) rfl (by first | exact want_n rfl | exact want_g _ _ _ rfl rfl rfl) (w.heap.size) _ rfl 66 66 p.at _ rw_pic size_pic P.out (by omega) ?_; rw [pic_row])
      | (go_at_call 89; (refine (HC.out _ E.out R.out).mono ?_); rintro o w1 ⟨rfl, hb⟩; replace P := Go.Lib.hid (row_next hb P.out); replace Z := Go.Lib.hid (row_next hb Z.out); replace R := Go.Lib.hid (row_next hb R.out); replace hB := Go.Lib.hid (below_next hB.out hb); replace E := Go.Lib.hid (E.out.next hb); clear hb)
      | (go_at_call 62; (refine (HK.out _ E.out).mono ?_); rintro o w1 ⟨rfl, hb⟩; replace P := Go.Lib.hid (row_next hb P.out); replace Z := Go.Lib.hid (row_next hb Z.out); replace R := Go.Lib.hid (row_next hb R.out); replace hB := Go.Lib.hid (below_next hB.out hb); replace E := Go.Lib.hid (E.out.next hb); clear hb)
      | ((with_reducible refine wlAt 12 rfl ?_); refine wpList_built rfl 61 [] rfl [] (by rfl) _ pbuilt_zero ?_)
      | ((with_reducible refine wlOp (.store 61 (.tmp 4) (.tmp 12)) rfl ?_); refine wpList_storeall rfl 61 (.tmp 4) (.tmp 12) rfl (w.heap.size + 1) rfl 66 Pic.zero.at Pic.zero.at rfl 61 size_pic Z.out (fun i _ => Pic.one _ i) ?_; replace Z := Go.Lib.hid (row_set Z.out (vrow 66 Pic.zero.at)); replace hB := Go.Lib.hid (Below_setRow hB.out (show w.heap.size ≤ w.heap.size + 1 by omega) (vrow 66 Pic.zero.at))))
    exact ret_row2 Tryd.results35 (w.heap.size + 1) 66 Pic.zero.at 61 _ Tryd.underlying61 rfl size_pic (.int .i64 1) rfl rfl rfl Z.out ⟨rfl, hB.out⟩
  · have HC : Hid (∀ W, Errs e W → W.heap[D]? = some (.cells (vrow (n * 3) (drf px py pn)) 66) → Calls Tryd.prog 89 #[.agg p.row, .slice (some ⟨D, 0, none⟩) n n] W fun o w' => o = .returned (errP e 2) ∧ Below W.heap.size W w') := Go.Lib.hid fun W h1 h2 => (ckAll_err p D n px py pn 2 hf h e W h1 h2).mono fun o w' ⟨⟨g, _⟩, g2⟩ => ⟨g, g2⟩
    have HK := Go.Lib.hid fun W h1 => codeOf_2 e W h1
    clear h
    go_enter Tryd.func35, Tryd.ntmps35
    go_wp2_with (first
      | go_skip
      | ((with_reducible refine wlAt 7 rfl ?_); refine wpList_ldm 61 (.tmp 2) rfl (by first | exact want_n rfl | exact want_g _ _ _ rfl rfl rfl) (w.heap.size) _ rfl 66 66 p.at _ rw_pic size_pic P.out (by omega) ?_; rw [pic_row])
      | (go_at_call 89; (refine (HC.out _ E.out R.out).mono ?_); rintro o w1 ⟨rfl, hb⟩; replace P := Go.Lib.hid (row_next hb P.out); replace Z := Go.Lib.hid (row_next hb Z.out); replace R := Go.Lib.hid (row_next hb R.out); replace hB := Go.Lib.hid (below_next hB.out hb); replace E := Go.Lib.hid (E.out.next hb); clear hb)
      | (go_at_call 62; (refine (HK.out _ E.out).mono ?_); rintro o w1 ⟨rfl, hb⟩; replace P := Go.Lib.hid (row_next hb P.out); replace Z := Go.Lib.hid (row_next hb Z.out); replace R := Go.Lib.hid (row_next hb R.out); replace hB := Go.Lib.hid (below_next hB.out hb); replace E := Go.Lib.hid (E.out.next hb); clear hb)
      | ((with_reducible refine wlAt 12 rfl ?_); refine wpList_built rfl 61 [] rfl [] (by rfl) _ pbuilt_zero ?_)
      | ((with_reducible refine wlOp (.store 61 (.tmp 4) (.tmp 12)) rfl ?_); refine wpList_storeall rfl 61 (.tmp 4) (.tmp 12) rfl (w.heap.size + 1) rfl 66 Pic.zero.at Pic.zero.at rfl 61 size_pic Z.out (fun i _ => Pic.one _ i) ?_; replace Z := Go.Lib.hid (row_set Z.out (vrow 66 Pic.zero.at)); replace hB := Go.Lib.hid (Below_setRow hB.out (show w.heap.size ≤ w.heap.size + 1 by omega) (vrow 66 Pic.zero.at))))
    exact ret_row2 Tryd.results35 (w.heap.size + 1) 66 Pic.zero.at 61 _ Tryd.underlying61 rfl size_pic (.int .i64 2) rfl rfl rfl Z.out ⟨rfl, hB.out⟩
  · have HC : Hid (∀ W, Errs e W → W.heap[D]? = some (.cells (vrow (n * 3) (drf px py pn)) 66) → Calls Tryd.prog 89 #[.agg p.row, .slice (some ⟨D, 0, none⟩) n n] W fun o w' => o = .returned (errP e 3) ∧ Below W.heap.size W w') := Go.Lib.hid fun W h1 h2 => (ckAll_err p D n px py pn 3 hf h e W h1 h2).mono fun o w' ⟨⟨g, _⟩, g2⟩ => ⟨g, g2⟩
    have HK := Go.Lib.hid fun W h1 => codeOf_3 e W h1
    clear h
    go_enter Tryd.func35, Tryd.ntmps35
    go_wp2_with (first
      | go_skip
      | ((with_reducible refine wlAt 7 rfl ?_); refine wpList_ldm 61 (.tmp 2) rfl (by first | exact want_n rfl | exact want_g _ _ _ rfl rfl rfl) (w.heap.size) _ rfl 66 66 p.at _ rw_pic size_pic P.out (by omega) ?_; rw [pic_row])
      | (go_at_call 89; (refine (HC.out _ E.out R.out).mono ?_); rintro o w1 ⟨rfl, hb⟩; replace P := Go.Lib.hid (row_next hb P.out); replace Z := Go.Lib.hid (row_next hb Z.out); replace R := Go.Lib.hid (row_next hb R.out); replace hB := Go.Lib.hid (below_next hB.out hb); replace E := Go.Lib.hid (E.out.next hb); clear hb)
      | (go_at_call 62; (refine (HK.out _ E.out).mono ?_); rintro o w1 ⟨rfl, hb⟩; replace P := Go.Lib.hid (row_next hb P.out); replace Z := Go.Lib.hid (row_next hb Z.out); replace R := Go.Lib.hid (row_next hb R.out); replace hB := Go.Lib.hid (below_next hB.out hb); replace E := Go.Lib.hid (E.out.next hb); clear hb)
      | ((with_reducible refine wlAt 12 rfl ?_); refine wpList_built rfl 61 [] rfl [] (by rfl) _ pbuilt_zero ?_)
      | ((with_reducible refine wlOp (.store 61 (.tmp 4) (.tmp 12)) rfl ?_); refine wpList_storeall rfl 61 (.tmp 4) (.tmp 12) rfl (w.heap.size + 1) rfl 66 Pic.zero.at Pic.zero.at rfl 61 size_pic Z.out (fun i _ => Pic.one _ i) ?_; replace Z := Go.Lib.hid (row_set Z.out (vrow 66 Pic.zero.at)); replace hB := Go.Lib.hid (Below_setRow hB.out (show w.heap.size ≤ w.heap.size + 1 by omega) (vrow 66 Pic.zero.at))))
    exact ret_row2 Tryd.results35 (w.heap.size + 1) 66 Pic.zero.at 61 _ Tryd.underlying61 rfl size_pic (.int .i64 3) rfl rfl rfl Z.out ⟨rfl, hB.out⟩
set_option maxHeartbeats 2000000 in
theorem implAll_ok (p : Pic) (D n a c : Nat) (px py pn : Nat → Int) (hf : p.fit) (hpx : ∀ i, i < n → -128 ≤ px i ∧ px i ≤ 127) (hpy : ∀ i, i < n → -128 ≤ py i ∧ py i ≤ 127) (hpn : ∀ i, i < n → 0 ≤ pn i ∧ pn i ≤ 255) (h1 : okP p = true) (hn : n ≤ 100) (hcan : canA p px py pn n = true) (ea : p.wide = a) (ec : p.high = c) (ha : a ≤ 8) (hc : c ≤ 8) (e : ErrE) (w : World) (hE : Errs e w) (hd : w.heap[D]? = some (.cells (vrow (n * 3) (drf px py pn)) 66)) : Calls Tryd.prog 35 #[.agg p.row, .slice (some ⟨D, 0, none⟩) n n] w fun o w' => o = .returned (.tuple #[.agg (drpP p a c px py pn n).row, .int .i64 0]) ∧ Below w.heap.size w w' := by
  have hDl := row_lt hd
  have zz := zero_pic
  have P : Hid (((w.alloc (.cells (vrow 66 p.at) 61)).alloc (.cells (vrow 66 Pic.zero.at) 61)).heap[w.heap.size]? = some (.cells (vrow 66 p.at) 61)) := (heap_past _ _ _ _ (by simp <;> omega) (heap_at _ _ _ (by simp)))
  have Z : Hid (((w.alloc (.cells (vrow 66 p.at) 61)).alloc (.cells (vrow 66 Pic.zero.at) 61)).heap[w.heap.size + 1]? = some (.cells (vrow 66 Pic.zero.at) 61)) := (heap_at _ _ _ (by simp))
  have hB : Hid (Below w.heap.size w ((w.alloc (.cells (vrow 66 p.at) 61)).alloc (.cells (vrow 66 Pic.zero.at) 61))) := Go.Lib.hid (((Below.refl w.heap.size w).alloc (by simp <;> omega) _).alloc (by simp <;> omega) _)
  have E : Hid (Errs e ((w.alloc (.cells (vrow 66 p.at) 61)).alloc (.cells (vrow 66 Pic.zero.at) 61))) := Go.Lib.hid ((hE.alloc _).alloc _)
  have R : Hid (((w.alloc (.cells (vrow 66 p.at) 61)).alloc (.cells (vrow 66 Pic.zero.at) 61)).heap[D]? = some (.cells (vrow (n * 3) (drf px py pn)) 66)) := heap_past _ _ _ _ (by simp; omega) (heap_past _ _ _ _ hDl hd)
  clear hd
  have HC := Go.Lib.hid fun W hE hd => ckAll_ok p D n px py pn hf h1 hn hcan e W hE hd
  have HD := Go.Lib.hid fun W hd => dropped_any p D n a c px py pn W hd ea ec ha hc hn hpn hcan
  obtain ⟨G, hG⟩ : ∃ G, drpP p a c px py pn n = G := ⟨_, rfl⟩
  rw [hG] at HD ⊢
  clear hG
  go_enter Tryd.func35, Tryd.ntmps35
  go_wp2_with (first
    | go_skip
    | ((with_reducible refine wlAt 7 rfl ?_); refine wpList_ldm 61 (.tmp 2) rfl (by first | exact want_n rfl | exact want_g _ _ _ rfl rfl rfl) (w.heap.size) _ rfl 66 66 p.at _ rw_pic size_pic P.out (by omega) ?_; rw [pic_row])
    | ((with_reducible refine wlAt 15 rfl ?_); refine wpList_ldm 61 (.tmp 2) rfl (by first | exact want_n rfl | exact want_g _ _ _ rfl rfl rfl) (w.heap.size) _ rfl 66 66 p.at _ rw_pic size_pic P.out (by omega) ?_; rw [pic_row])
    | (go_at_call 89; (refine (HC.out _ E.out R.out).mono ?_); rintro o w1 ⟨rfl, hb⟩; replace P := Go.Lib.hid (row_next hb P.out); replace Z := Go.Lib.hid (row_next hb Z.out); replace R := Go.Lib.hid (row_next hb R.out); replace hB := Go.Lib.hid (below_next hB.out hb); replace E := Go.Lib.hid (E.out.next hb); clear hb)
    | (go_at_call 90; (refine (HD.out _ R.out).mono ?_); rintro o w1 ⟨rfl, hb⟩; replace P := Go.Lib.hid (row_next hb P.out); replace Z := Go.Lib.hid (row_next hb Z.out); replace R := Go.Lib.hid (row_next hb R.out); replace hB := Go.Lib.hid (below_next hB.out hb); replace E := Go.Lib.hid (E.out.next hb); clear hb)
    | ((with_reducible refine wlOp (.store 61 (.tmp 4) (.tmp 17)) rfl ?_); refine wpList_storeall rfl 61 (.tmp 4) (.tmp 17) rfl (w.heap.size + 1) rfl 66 Pic.zero.at G.at rfl 61 size_pic Z.out (fun i _ => Pic.one _ i) ?_; replace Z := Go.Lib.hid (row_set Z.out (vrow 66 G.at)); replace hB := Go.Lib.hid (Below_setRow hB.out (show w.heap.size ≤ w.heap.size + 1 by omega) (vrow 66 G.at))))
  exact ret_row2 Tryd.results35 (w.heap.size + 1) 66 G.at 61 _ Tryd.underlying61 rfl size_pic (.int .i64 0) rfl rfl rfl Z.out ⟨rfl, hB.out⟩
theorem dr_lit (x y n : Int) : (#[.int .i8 x, .int .i8 y, .int .u8 n] : Array Value) = vrow (1 * 3) (drf (fun _ => x) (fun _ => y) (fun _ => n)) := rfl
set_option maxHeartbeats 2000000 in
theorem specOn_bad (p : Pic) (x y n : Int) (h1 : okP p = false) (w : World) (hf : p.fit) (hx : -128 ≤ x ∧ x ≤ 127) (hy : -128 ≤ y ∧ y ≤ 127) (hn : 0 ≤ n ∧ n ≤ 255) : Calls Tryd.prog 27 #[.agg p.row, .agg (vrow 3 (drAt x y n))] w fun o w' => o = .returned (.tuple #[.agg Pic.zero.row, .int .i64 1]) ∧ Below w.heap.size w w' := by
  have zz := zero_pic
  have P : Hid ((((w.alloc (.cells (vrow 66 p.at) 61)).alloc (.cells (vrow 3 (drAt x y n)) 66)).alloc (.cells (vrow 66 Pic.zero.at) 61)).heap[w.heap.size]? = some (.cells (vrow 66 p.at) 61)) := (heap_past _ _ _ _ (by simp <;> omega) (heap_past _ _ _ _ (by simp <;> omega) (heap_at _ _ _ (by simp))))
  have R : Hid ((((w.alloc (.cells (vrow 66 p.at) 61)).alloc (.cells (vrow 3 (drAt x y n)) 66)).alloc (.cells (vrow 66 Pic.zero.at) 61)).heap[w.heap.size + 1]? = some (.cells (vrow 3 (drAt x y n)) 66)) := (heap_past _ _ _ _ (by simp <;> omega) (heap_at _ _ _ (by simp)))
  have Z : Hid ((((w.alloc (.cells (vrow 66 p.at) 61)).alloc (.cells (vrow 3 (drAt x y n)) 66)).alloc (.cells (vrow 66 Pic.zero.at) 61)).heap[w.heap.size + 2]? = some (.cells (vrow 66 Pic.zero.at) 61)) := (heap_at _ _ _ (by simp))
  have hB : Hid (Below w.heap.size w (((w.alloc (.cells (vrow 66 p.at) 61)).alloc (.cells (vrow 3 (drAt x y n)) 66)).alloc (.cells (vrow 66 Pic.zero.at) 61))) := Go.Lib.hid ((((Below.refl w.heap.size w).alloc (by simp <;> omega) _).alloc (by simp <;> omega) _).alloc (by simp <;> omega) _)
  have HO := Go.Lib.hid fun w' h => okP_from w' p w.heap.size w' h hf (Below.refl _ _)
  rw [h1] at HO
  go_enter Tryd.func27, Tryd.ntmps27
  go_wp2_with (first
    | go_skip
    | (go_at_call 83; (refine (HO.out _ P.out).mono ?_); rintro o w1 ⟨rfl, hb⟩; replace P := Go.Lib.hid (row_next hb P.out); replace R := Go.Lib.hid (row_next hb R.out); replace Z := Go.Lib.hid (row_next hb Z.out); replace hB := Go.Lib.hid (below_next hB.out hb); clear hb)
    | ((with_reducible refine wlAt 8 rfl ?_); refine wpList_built rfl 61 [] rfl [] (by rfl) _ pbuilt_zero ?_)
    | ((with_reducible refine wlOp (.store 61 (.tmp 4) (.tmp 8)) rfl ?_); refine wpList_storeall rfl 61 (.tmp 4) (.tmp 8) rfl (w.heap.size + 2) rfl 66 Pic.zero.at Pic.zero.at rfl 61 size_pic Z.out (fun i _ => Pic.one _ i) ?_; replace Z := Go.Lib.hid (row_set Z.out (vrow 66 Pic.zero.at)); replace hB := Go.Lib.hid (Below_setRow hB.out (show w.heap.size ≤ w.heap.size + 2 by omega) (vrow 66 Pic.zero.at))))
  exact ret_row2 Tryd.results27 (w.heap.size + 2) 66 Pic.zero.at 61 _ Tryd.underlying61 rfl size_pic (.int .i64 1) rfl rfl rfl Z.out ⟨rfl, hB.out⟩
set_option maxHeartbeats 2000000 in
theorem specOn_rng (p : Pic) (x y n : Int) (h1 : okP p = true) (h2 : canB p x y n = false) (w : World) (hf : p.fit) (hx : -128 ≤ x ∧ x ≤ 127) (hy : -128 ≤ y ∧ y ≤ 127) (hn : 0 ≤ n ∧ n ≤ 255) : Calls Tryd.prog 27 #[.agg p.row, .agg (vrow 3 (drAt x y n))] w fun o w' => o = .returned (.tuple #[.agg Pic.zero.row, .int .i64 2]) ∧ Below w.heap.size w w' := by
  have zz := zero_pic
  have P : Hid ((((w.alloc (.cells (vrow 66 p.at) 61)).alloc (.cells (vrow 3 (drAt x y n)) 66)).alloc (.cells (vrow 66 Pic.zero.at) 61)).heap[w.heap.size]? = some (.cells (vrow 66 p.at) 61)) := (heap_past _ _ _ _ (by simp <;> omega) (heap_past _ _ _ _ (by simp <;> omega) (heap_at _ _ _ (by simp))))
  have R : Hid ((((w.alloc (.cells (vrow 66 p.at) 61)).alloc (.cells (vrow 3 (drAt x y n)) 66)).alloc (.cells (vrow 66 Pic.zero.at) 61)).heap[w.heap.size + 1]? = some (.cells (vrow 3 (drAt x y n)) 66)) := (heap_past _ _ _ _ (by simp <;> omega) (heap_at _ _ _ (by simp)))
  have Z : Hid ((((w.alloc (.cells (vrow 66 p.at) 61)).alloc (.cells (vrow 3 (drAt x y n)) 66)).alloc (.cells (vrow 66 Pic.zero.at) 61)).heap[w.heap.size + 2]? = some (.cells (vrow 66 Pic.zero.at) 61)) := (heap_at _ _ _ (by simp))
  have hB : Hid (Below w.heap.size w (((w.alloc (.cells (vrow 66 p.at) 61)).alloc (.cells (vrow 3 (drAt x y n)) 66)).alloc (.cells (vrow 66 Pic.zero.at) 61))) := Go.Lib.hid ((((Below.refl w.heap.size w).alloc (by simp <;> omega) _).alloc (by simp <;> omega) _).alloc (by simp <;> omega) _)
  have HO := Go.Lib.hid fun w' h => okP_from w' p w.heap.size w' h hf (Below.refl _ _)
  rw [h1] at HO
  have HC := Go.Lib.hid fun w' h => lcan_any p w.heap.size x y n w' h hf hx hy
  rw [h2] at HC
  go_enter Tryd.func27, Tryd.ntmps27
  go_wp2_with (first
    | go_skip
    | ((with_reducible refine wlAt 9 rfl ?_); refine wpList_ldm 66 (.tmp 3) rfl (by first | exact want_n rfl | exact want_g _ _ _ rfl rfl rfl) (w.heap.size + 1) _ rfl 3 3 (drAt x y n) _ rw_dr size_dr R.out (by omega) ?_; rw [dr_row0])
    | ((with_reducible refine wlAt 13 rfl ?_); refine wpList_ldm 66 (.tmp 3) rfl (by first | exact want_n rfl | exact want_g _ _ _ rfl rfl rfl) (w.heap.size + 1) _ rfl 3 3 (drAt x y n) _ rw_dr size_dr R.out (by omega) ?_; rw [dr_row0])
    | (go_at_call 83; (refine (HO.out _ P.out).mono ?_); rintro o w1 ⟨rfl, hb⟩; replace P := Go.Lib.hid (row_next hb P.out); replace R := Go.Lib.hid (row_next hb R.out); replace Z := Go.Lib.hid (row_next hb Z.out); replace hB := Go.Lib.hid (below_next hB.out hb); clear hb)
    | (go_at_call 84; (refine (HC.out _ P.out).mono ?_); rintro o w1 ⟨rfl, hb⟩; replace P := Go.Lib.hid (row_next hb P.out); replace R := Go.Lib.hid (row_next hb R.out); replace Z := Go.Lib.hid (row_next hb Z.out); replace hB := Go.Lib.hid (below_next hB.out hb); clear hb)
    | ((with_reducible refine wlAt 12 rfl ?_); refine wpList_built rfl 61 [] rfl [] (by rfl) _ pbuilt_zero ?_)
    | ((with_reducible refine wlOp (.store 61 (.tmp 4) (.tmp 12)) rfl ?_); refine wpList_storeall rfl 61 (.tmp 4) (.tmp 12) rfl (w.heap.size + 2) rfl 66 Pic.zero.at Pic.zero.at rfl 61 size_pic Z.out (fun i _ => Pic.one _ i) ?_; replace Z := Go.Lib.hid (row_set Z.out (vrow 66 Pic.zero.at)); replace hB := Go.Lib.hid (Below_setRow hB.out (show w.heap.size ≤ w.heap.size + 2 by omega) (vrow 66 Pic.zero.at))))
  exact ret_row2 Tryd.results27 (w.heap.size + 2) 66 Pic.zero.at 61 _ Tryd.underlying61 rfl size_pic (.int .i64 2) rfl rfl rfl Z.out ⟨rfl, hB.out⟩
set_option maxHeartbeats 2000000 in
theorem specOn_ok (p : Pic) (x y n : Int) (a c : Nat) (h1 : okP p = true) (h2 : canB p x y n = true) (ea : p.wide = a) (ec : p.high = c) (ha : a ≤ 8) (hc : c ≤ 8) (w : World) (hf : p.fit) (hx : -128 ≤ x ∧ x ≤ 127) (hy : -128 ≤ y ∧ y ≤ 127) (hn : 0 ≤ n ∧ n ≤ 255) : Calls Tryd.prog 27 #[.agg p.row, .agg (vrow 3 (drAt x y n))] w fun o w' => o = .returned (.tuple #[.agg (drpP p a c (fun _ => x) (fun _ => y) (fun _ => n) 1).row, .int .i64 0]) ∧ Below w.heap.size w w' := by
  have zz := zero_pic
  have P : Hid ((((w.alloc (.cells (vrow 66 p.at) 61)).alloc (.cells (vrow 3 (drAt x y n)) 66)).alloc (.cells (vrow 66 Pic.zero.at) 61)).heap[w.heap.size]? = some (.cells (vrow 66 p.at) 61)) := (heap_past _ _ _ _ (by simp <;> omega) (heap_past _ _ _ _ (by simp <;> omega) (heap_at _ _ _ (by simp))))
  have R : Hid ((((w.alloc (.cells (vrow 66 p.at) 61)).alloc (.cells (vrow 3 (drAt x y n)) 66)).alloc (.cells (vrow 66 Pic.zero.at) 61)).heap[w.heap.size + 1]? = some (.cells (vrow 3 (drAt x y n)) 66)) := (heap_past _ _ _ _ (by simp <;> omega) (heap_at _ _ _ (by simp)))
  have Z : Hid ((((w.alloc (.cells (vrow 66 p.at) 61)).alloc (.cells (vrow 3 (drAt x y n)) 66)).alloc (.cells (vrow 66 Pic.zero.at) 61)).heap[w.heap.size + 2]? = some (.cells (vrow 66 Pic.zero.at) 61)) := (heap_at _ _ _ (by simp))
  have hB : Hid (Below w.heap.size w (((w.alloc (.cells (vrow 66 p.at) 61)).alloc (.cells (vrow 3 (drAt x y n)) 66)).alloc (.cells (vrow 66 Pic.zero.at) 61))) := Go.Lib.hid ((((Below.refl w.heap.size w).alloc (by simp <;> omega) _).alloc (by simp <;> omega) _).alloc (by simp <;> omega) _)
  have HO := Go.Lib.hid fun w' h => okP_from w' p w.heap.size w' h hf (Below.refl _ _)
  rw [h1] at HO
  have HC := Go.Lib.hid fun w' h => lcan_any p w.heap.size x y n w' h hf hx hy
  rw [h2] at HC
  obtain ⟨i, j, m, ex, ey, em, hi, hj, hm⟩ := canB_nat ea ec ha hc hn.1 h2
  have HD := Go.Lib.hid fun w' h => ldrop_any p w.heap.size a c i j m w' h hf ea ec ha hc hi hj hm
  have HG : Hid (drpP p a c (fun _ => x) (fun _ => y) (fun _ => n) 1 = dab p ((m : Int) + 1) (cov a c i j)) := Go.Lib.hid (by show dab p (n + 1) (cov a c x y) = _; rw [ex, ey, em])
  rw [← ex, ← ey, ← em] at HD HG
  clear ex ey em
  obtain ⟨G, hG⟩ : ∃ G, dab p (n + 1) (cov a c x y) = G := ⟨_, rfl⟩
  rw [hG] at HD HG
  rw [HG.out]
  clear hG HG
  go_enter Tryd.func27, Tryd.ntmps27
  go_wp2_with (first
    | go_skip
    | ((with_reducible refine wlAt 9 rfl ?_); refine wpList_ldm 66 (.tmp 3) rfl (by first | exact want_n rfl | exact want_g _ _ _ rfl rfl rfl) (w.heap.size + 1) _ rfl 3 3 (drAt x y n) _ rw_dr size_dr R.out (by omega) ?_; rw [dr_row0])
    | ((with_reducible refine wlAt 13 rfl ?_); refine wpList_ldm 66 (.tmp 3) rfl (by first | exact want_n rfl | exact want_g _ _ _ rfl rfl rfl) (w.heap.size + 1) _ rfl 3 3 (drAt x y n) _ rw_dr size_dr R.out (by omega) ?_; rw [dr_row0])
    | (go_at_call 83; (refine (HO.out _ P.out).mono ?_); rintro o w1 ⟨rfl, hb⟩; replace P := Go.Lib.hid (row_next hb P.out); replace R := Go.Lib.hid (row_next hb R.out); replace Z := Go.Lib.hid (row_next hb Z.out); replace hB := Go.Lib.hid (below_next hB.out hb); clear hb)
    | (go_at_call 84; (refine (HC.out _ P.out).mono ?_); rintro o w1 ⟨rfl, hb⟩; replace P := Go.Lib.hid (row_next hb P.out); replace R := Go.Lib.hid (row_next hb R.out); replace Z := Go.Lib.hid (row_next hb Z.out); replace hB := Go.Lib.hid (below_next hB.out hb); clear hb)
    | (go_at_call 85; (refine (HD.out _ P.out).mono ?_); rintro o w1 ⟨rfl, hP, hg⟩; replace Z := Go.Lib.hid (grown_row hg Z.out (by simp)); replace hB := Go.Lib.hid (belowG hB.out hg (by omega)); clear hg P R; have P := Go.Lib.hid hP; clear hP)
    | ((with_reducible refine wlAt 15 rfl ?_); refine wpList_ldm 61 (.tmp 2) rfl (by first | exact want_n rfl | exact want_g _ _ _ rfl rfl rfl) (w.heap.size) _ rfl 66 66 G.at _ rw_pic size_pic P.out (by omega) ?_; rw [pic_row])
    | ((with_reducible refine wlOp (.store 61 (.tmp 4) (.tmp 15)) rfl ?_); refine wpList_storeall rfl 61 (.tmp 4) (.tmp 15) rfl (w.heap.size + 2) rfl 66 Pic.zero.at G.at rfl 61 size_pic Z.out (fun i _ => Pic.one _ i) ?_; replace Z := Go.Lib.hid (row_set Z.out (vrow 66 G.at)); replace hB := Go.Lib.hid (Below_setRow hB.out (show w.heap.size ≤ w.heap.size + 2 by omega) (vrow 66 G.at))))
  exact ret_row2 Tryd.results27 (w.heap.size + 2) 66 G.at 61 _ Tryd.underlying61 rfl size_pic (.int .i64 0) rfl rfl rfl Z.out ⟨rfl, hB.out⟩
set_option maxHeartbeats 2000000 in
theorem implOn_any (p : Pic) (x y n k : Int) (q : Pic) (e : ErrE) (w : World) (hE : Errs e w) (HI : ∀ D W, Errs e W → W.heap[D]? = some (.cells (vrow (1 * 3) (drf (fun _ => x) (fun _ => y) (fun _ => n))) 66) → Calls Tryd.prog 35 #[.agg p.row, .slice (some ⟨D, 0, none⟩) (1 : Nat) (1 : Nat)] W fun o w' => o = .returned (.tuple #[.agg q.row, .int .i64 k]) ∧ Below W.heap.size W w') : Calls Tryd.prog 30 #[.agg p.row, .agg (vrow 3 (drAt x y n))] w fun o w' => o = .returned (.tuple #[.agg q.row, .int .i64 k]) ∧ Below w.heap.size w w' := by
  have zz := zero_pic
  have P : Hid ((((w.alloc (.cells (vrow 66 p.at) 61)).alloc (.cells (vrow 3 (drAt x y n)) 66)).alloc (.cells (vrow 66 Pic.zero.at) 61)).heap[w.heap.size]? = some (.cells (vrow 66 p.at) 61)) := (heap_past _ _ _ _ (by simp <;> omega) (heap_past _ _ _ _ (by simp <;> omega) (heap_at _ _ _ (by simp))))
  have R : Hid ((((w.alloc (.cells (vrow 66 p.at) 61)).alloc (.cells (vrow 3 (drAt x y n)) 66)).alloc (.cells (vrow 66 Pic.zero.at) 61)).heap[w.heap.size + 1]? = some (.cells (vrow 3 (drAt x y n)) 66)) := (heap_past _ _ _ _ (by simp <;> omega) (heap_at _ _ _ (by simp)))
  have Z : Hid ((((w.alloc (.cells (vrow 66 p.at) 61)).alloc (.cells (vrow 3 (drAt x y n)) 66)).alloc (.cells (vrow 66 Pic.zero.at) 61)).heap[w.heap.size + 2]? = some (.cells (vrow 66 Pic.zero.at) 61)) := (heap_at _ _ _ (by simp))
  have hB : Hid (Below w.heap.size w (((w.alloc (.cells (vrow 66 p.at) 61)).alloc (.cells (vrow 3 (drAt x y n)) 66)).alloc (.cells (vrow 66 Pic.zero.at) 61))) := Go.Lib.hid ((((Below.refl w.heap.size w).alloc (by simp <;> omega) _).alloc (by simp <;> omega) _).alloc (by simp <;> omega) _)
  have E : Hid (Errs e (((w.alloc (.cells (vrow 66 p.at) 61)).alloc (.cells (vrow 3 (drAt x y n)) 66)).alloc (.cells (vrow 66 Pic.zero.at) 61))) := Go.Lib.hid (((hE.alloc _).alloc _).alloc _)
  replace HI := Go.Lib.hid HI
  go_enter Tryd.func30, Tryd.ntmps30
  go_wp2_with (first
    | go_skip
    | ((with_reducible refine wlAt 6 rfl ?_); refine wpList_ldm 61 (.tmp 2) rfl (by first | exact want_n rfl | exact want_g _ _ _ rfl rfl rfl) (w.heap.size) _ rfl 66 66 p.at _ rw_pic size_pic P.out (by omega) ?_; rw [pic_row])
    | ((with_reducible refine wlAt 7 rfl ?_); refine wpList_ldm 66 (.tmp 3) rfl (by first | exact want_n rfl | exact want_g _ _ _ rfl rfl rfl) (w.heap.size + 1) _ rfl 3 3 (drAt x y n) _ rw_dr size_dr R.out (by omega) ?_; rw [dr_row0]; rw [dr_row])
    | (go_at_call 35; (refine (HI.out (w.heap.size + 1 + 1 + 1) _ (E.out.alloc _) (by rw [← dr_lit]; exact heap_at _ _ _ (by simp))).mono ?_); rintro o w1 ⟨rfl, hb⟩; replace Z := Go.Lib.hid (row_next hb (heap_past _ _ _ _ (row_lt Z.out) Z.out)); replace hB := Go.Lib.hid (below_next (hB.out.alloc hB.out.size _) hb); clear hb P R E)
    | ((with_reducible refine wlOp (.store 61 (.tmp 4) (.tmp 10)) rfl ?_); refine wpList_storeall rfl 61 (.tmp 4) (.tmp 10) rfl (w.heap.size + 2) rfl 66 Pic.zero.at q.at rfl 61 size_pic Z.out (fun i _ => Pic.one _ i) ?_; replace Z := Go.Lib.hid (row_set Z.out (vrow 66 q.at)); replace hB := Go.Lib.hid (Below_setRow hB.out (show w.heap.size ≤ w.heap.size + 2 by omega) (vrow 66 q.at))))
  exact ret_row2 Tryd.results30 (w.heap.size + 2) 66 q.at 61 _ Tryd.underlying61 rfl size_pic (.int .i64 k) rfl rfl rfl Z.out ⟨rfl, hB.out⟩
theorem okP_blank (a c : Nat) (ha : 1 ≤ a ∧ a ≤ 8) (hc : 1 ≤ c ∧ c ≤ 8) : okP (blankPic a c) = true :=
  okP_yes _ (sizeB_yes (by show (1 : Int) ≤ a; omega) (by show (a : Int) ≤ 8; omega) (by show (1 : Int) ≤ c; omega) (by show (c : Int) ≤ 8; omega)) fun x y hx hy => by simp [placeP, blankPic]
theorem blank_fit (a c : Nat) (ha : 1 ≤ a ∧ a ≤ 8) (hc : 1 ≤ c ∧ c ≤ 8) : (blankPic a c).fit := ⟨by unfold blankPic; simp only; omega, by unfold blankPic; simp only; omega, fun i _ => by unfold blankPic; simp⟩
end Go.Proofs.YtfgcpiipndhllaaDoor
namespace Go.Proofs.YtfgcpiipndhllaaDoor
open Go.RowKit
set_option linter.unusedVariables false
set_option linter.unusedSimpArgs false
set_option maxHeartbeats 2000000 in
theorem specCk_bad (p : Pic) (D n : Nat) (px py pn : Nat → Int) (h1 : okP p = false) (w : World) (hf : p.fit) (hpx : ∀ i, i < n → -128 ≤ px i ∧ px i ≤ 127) (hpy : ∀ i, i < n → -128 ≤ py i ∧ py i ≤ 127) (hpn : ∀ i, i < n → 0 ≤ pn i ∧ pn i ≤ 255) (hd : w.heap[D]? = some (.cells (vrow (n * 3) (drf px py pn)) 66)) : Calls Tryd.prog 37 #[.agg p.row, .slice (some ⟨D, 0, none⟩) n n] w fun o w' => o = .returned (.tuple #[.bool false, .int .i64 1]) ∧ Below w.heap.size w w' := by
  have hDl := row_lt hd
  have zz := zero_pic
  have P : Hid ((w.alloc (.cells (vrow 66 p.at) 61)).heap[w.heap.size]? = some (.cells (vrow 66 p.at) 61)) := (heap_at _ _ _ (by simp))
  have hB : Hid (Below w.heap.size w (w.alloc (.cells (vrow 66 p.at) 61))) := Go.Lib.hid ((Below.refl w.heap.size w).alloc (by simp <;> omega) _)
  have R : Hid ((w.alloc (.cells (vrow 66 p.at) 61)).heap[D]? = some (.cells (vrow (n * 3) (drf px py pn)) 66)) := heap_past _ _ _ _ hDl hd
  clear hd
  have HO := Go.Lib.hid fun w' h => okP_from w' p w.heap.size w' h hf (Below.refl _ _)
  rw [h1] at HO
  go_enter Tryd.func37, Tryd.ntmps37
  go_wp2_with (first
    | go_skip
    | (go_at_call 83; (refine (HO.out _ P.out).mono ?_); rintro o w1 ⟨rfl, hb⟩; replace P := Go.Lib.hid (row_next hb P.out); replace R := Go.Lib.hid (row_next hb R.out); replace hB := Go.Lib.hid (below_next hB.out hb); clear hb))
  go_ret2
  exact ⟨rfl, hB.out⟩
set_option maxHeartbeats 2000000 in
theorem specCk_err (p : Pic) (D n : Nat) (px py pn : Nat → Int) (k : Int) (h1 : okP p = true) (h : badD p px py pn n k) (w : World) (hf : p.fit) (hpx : ∀ i, i < n → -128 ≤ px i ∧ px i ≤ 127) (hpy : ∀ i, i < n → -128 ≤ py i ∧ py i ≤ 127) (hpn : ∀ i, i < n → 0 ≤ pn i ∧ pn i ≤ 255) (hd : w.heap[D]? = some (.cells (vrow (n * 3) (drf px py pn)) 66)) : Calls Tryd.prog 37 #[.agg p.row, .slice (some ⟨D, 0, none⟩) n n] w fun o w' => o = .returned (.tuple #[.bool false, .int .i64 k]) ∧ Below w.heap.size w w' := by
  have hDl := row_lt hd
  have zz := zero_pic
  have P : Hid ((w.alloc (.cells (vrow 66 p.at) 61)).heap[w.heap.size]? = some (.cells (vrow 66 p.at) 61)) := (heap_at _ _ _ (by simp))
  have hB : Hid (Below w.heap.size w (w.alloc (.cells (vrow 66 p.at) 61))) := Go.Lib.hid ((Below.refl w.heap.size w).alloc (by simp <;> omega) _)
  have R : Hid ((w.alloc (.cells (vrow 66 p.at) 61)).heap[D]? = some (.cells (vrow (n * 3) (drf px py pn)) 66)) := heap_past _ _ _ _ hDl hd
  clear hd
  have HO := Go.Lib.hid fun w' h => okP_from w' p w.heap.size w' h hf (Below.refl _ _)
  rw [h1] at HO
  have HL : Hid (∀ b W, W.heap[b]? = some (.cells (vrow 66 (blankPic p.wide p.high).at) 61) → W.heap[D]? = some (.cells (vrow (n * 3) (drf px py pn)) 66) → D ≠ b → Calls Tryd.prog 88 #[.pointer (some ⟨b, 0, none⟩), .slice (some ⟨D, 0, none⟩) n n] W fun o w' => W.grownBy w' (some b) ∧ o = .returned (.int .i64 k)) := Go.Lib.hid fun b W h2 h3 hne => by
    obtain ⟨a, c, ea, ec, ha, hc⟩ := okP_nat2 h1
    rw [ea, ec] at h2
    have hsm : ∀ j, canA (blankPic a c) px py pn j = canA p px py pn j := fun j => canA_same ea.symm ec.symm _ _ _ j
    rcases h with ⟨g1, rfl⟩ | ⟨g1, g2, rfl⟩ | ⟨g1, g2, g3, rfl⟩
    · rw [h1] at g1; cases g1
    · exact (lall_lim _ _ _ n n W h2 (blank_fit a c ha hc) (okP_blank a c ha hc) g2).mono fun o w' ⟨e1, e2⟩ => ⟨grown_next (grown_refl _ _) e2, e1⟩
    · refine (lall_any (blankPic a c) _ D n a c px py pn W h2 h3 hne (blank_fit a c ha hc) (okP_blank a c ha hc) rfl rfl ha.2 hc.2 g2 hpx hpy hpn).mono ?_
      rintro o w' ⟨e1, ⟨e2, _⟩ | ⟨_, e3⟩⟩
      · rw [hsm, g3] at e2; cases e2
      · exact ⟨e1, e3⟩
  have hk : k = 1 ∨ k = 2 ∨ k = 3 := by rcases h with ⟨_, rfl⟩ | ⟨_, _, rfl⟩ | ⟨_, _, _, rfl⟩ <;> simp
  clear h
  rcases hk with rfl | rfl | rfl
  · skip
    go_enter Tryd.func37, Tryd.ntmps37
    go_wp2_with (first
      | go_skip
      | ((with_reducible refine wlAt 11 rfl ?_); refine wpList_ld1 22 _ rfl (by first | exact want_n rfl | exact want_g _ _ _ rfl rfl rfl) (w.heap.size) 0 rfl 66 p.at _ rw_i8 P.out (by omega) ?_; rw [Pic.at_0])
      | ((with_reducible refine wlAt 13 rfl ?_); refine wpList_ld1 22 _ rfl (by first | exact want_n rfl | exact want_g _ _ _ rfl rfl rfl) (w.heap.size) 1 rfl 66 p.at _ rw_i8 P.out (by omega) ?_; rw [Pic.at_1])
      | (go_at_call 83; (refine (HO.out _ P.out).mono ?_); rintro o w1 ⟨rfl, hb⟩; replace P := Go.Lib.hid (row_next hb P.out); replace R := Go.Lib.hid (row_next hb R.out); replace hB := Go.Lib.hid (below_next hB.out hb); clear hb)
      | ((with_reducible refine wlAt 14 rfl ?_); refine wpList_built rfl 61 [(0, .tmp 11), (1, .tmp 13)] rfl [(0, .int .i8 p.wide), (1, .int .i8 p.high)] (by rfl) _ (built_blank p.wide p.high) ?_)
      | ((with_reducible refine wlOp (.store 61 (.tmp 6) (.tmp 14)) rfl ?_); refine wpList_storeall rfl 61 (.tmp 6) (.tmp 14) rfl _ rfl 66 Pic.zero.at (blankPic p.wide p.high).at rfl 61 size_pic (heap_at _ _ _ rfl) (fun i _ => Pic.one _ i) ?_; rw [setRow_at _ _ _ _ _ rfl]; have O := Go.Lib.hid (heap_at w1 (.cells (vrow 66 (blankPic p.wide p.high).at) 61) _ rfl); have hDO : D ≠ w1.heap.size := (by have := row_lt R.out; omega); have hbs := hB.out.size; have lpp := row_lt P.out; replace P := Go.Lib.hid (heap_past w1 (.cells (vrow 66 (blankPic p.wide p.high).at) 61) _ _ (row_lt P.out) P.out); replace R := Go.Lib.hid (heap_past w1 (.cells (vrow 66 (blankPic p.wide p.high).at) 61) _ _ (row_lt R.out) R.out); replace hB := Go.Lib.hid (hB.out.alloc hB.out.size (.cells (vrow 66 (blankPic p.wide p.high).at) 61)))
      | (go_at_call 88; (refine (HL.out _ _ O.out R.out hDO).mono ?_); rintro o w2 ⟨hg, rfl⟩; replace hB := Go.Lib.hid (belowG hB.out hg (by omega)); clear hg P R O))
    go_ret2
    exact ⟨rfl, hB.out⟩
  · skip
    go_enter Tryd.func37, Tryd.ntmps37
    go_wp2_with (first
      | go_skip
      | ((with_reducible refine wlAt 11 rfl ?_); refine wpList_ld1 22 _ rfl (by first | exact want_n rfl | exact want_g _ _ _ rfl rfl rfl) (w.heap.size) 0 rfl 66 p.at _ rw_i8 P.out (by omega) ?_; rw [Pic.at_0])
      | ((with_reducible refine wlAt 13 rfl ?_); refine wpList_ld1 22 _ rfl (by first | exact want_n rfl | exact want_g _ _ _ rfl rfl rfl) (w.heap.size) 1 rfl 66 p.at _ rw_i8 P.out (by omega) ?_; rw [Pic.at_1])
      | (go_at_call 83; (refine (HO.out _ P.out).mono ?_); rintro o w1 ⟨rfl, hb⟩; replace P := Go.Lib.hid (row_next hb P.out); replace R := Go.Lib.hid (row_next hb R.out); replace hB := Go.Lib.hid (below_next hB.out hb); clear hb)
      | ((with_reducible refine wlAt 14 rfl ?_); refine wpList_built rfl 61 [(0, .tmp 11), (1, .tmp 13)] rfl [(0, .int .i8 p.wide), (1, .int .i8 p.high)] (by rfl) _ (built_blank p.wide p.high) ?_)
      | ((with_reducible refine wlOp (.store 61 (.tmp 6) (.tmp 14)) rfl ?_); refine wpList_storeall rfl 61 (.tmp 6) (.tmp 14) rfl _ rfl 66 Pic.zero.at (blankPic p.wide p.high).at rfl 61 size_pic (heap_at _ _ _ rfl) (fun i _ => Pic.one _ i) ?_; rw [setRow_at _ _ _ _ _ rfl]; have O := Go.Lib.hid (heap_at w1 (.cells (vrow 66 (blankPic p.wide p.high).at) 61) _ rfl); have hDO : D ≠ w1.heap.size := (by have := row_lt R.out; omega); have hbs := hB.out.size; have lpp := row_lt P.out; replace P := Go.Lib.hid (heap_past w1 (.cells (vrow 66 (blankPic p.wide p.high).at) 61) _ _ (row_lt P.out) P.out); replace R := Go.Lib.hid (heap_past w1 (.cells (vrow 66 (blankPic p.wide p.high).at) 61) _ _ (row_lt R.out) R.out); replace hB := Go.Lib.hid (hB.out.alloc hB.out.size (.cells (vrow 66 (blankPic p.wide p.high).at) 61)))
      | (go_at_call 88; (refine (HL.out _ _ O.out R.out hDO).mono ?_); rintro o w2 ⟨hg, rfl⟩; replace hB := Go.Lib.hid (belowG hB.out hg (by omega)); clear hg P R O))
    go_ret2
    exact ⟨rfl, hB.out⟩
  · skip
    go_enter Tryd.func37, Tryd.ntmps37
    go_wp2_with (first
      | go_skip
      | ((with_reducible refine wlAt 11 rfl ?_); refine wpList_ld1 22 _ rfl (by first | exact want_n rfl | exact want_g _ _ _ rfl rfl rfl) (w.heap.size) 0 rfl 66 p.at _ rw_i8 P.out (by omega) ?_; rw [Pic.at_0])
      | ((with_reducible refine wlAt 13 rfl ?_); refine wpList_ld1 22 _ rfl (by first | exact want_n rfl | exact want_g _ _ _ rfl rfl rfl) (w.heap.size) 1 rfl 66 p.at _ rw_i8 P.out (by omega) ?_; rw [Pic.at_1])
      | (go_at_call 83; (refine (HO.out _ P.out).mono ?_); rintro o w1 ⟨rfl, hb⟩; replace P := Go.Lib.hid (row_next hb P.out); replace R := Go.Lib.hid (row_next hb R.out); replace hB := Go.Lib.hid (below_next hB.out hb); clear hb)
      | ((with_reducible refine wlAt 14 rfl ?_); refine wpList_built rfl 61 [(0, .tmp 11), (1, .tmp 13)] rfl [(0, .int .i8 p.wide), (1, .int .i8 p.high)] (by rfl) _ (built_blank p.wide p.high) ?_)
      | ((with_reducible refine wlOp (.store 61 (.tmp 6) (.tmp 14)) rfl ?_); refine wpList_storeall rfl 61 (.tmp 6) (.tmp 14) rfl _ rfl 66 Pic.zero.at (blankPic p.wide p.high).at rfl 61 size_pic (heap_at _ _ _ rfl) (fun i _ => Pic.one _ i) ?_; rw [setRow_at _ _ _ _ _ rfl]; have O := Go.Lib.hid (heap_at w1 (.cells (vrow 66 (blankPic p.wide p.high).at) 61) _ rfl); have hDO : D ≠ w1.heap.size := (by have := row_lt R.out; omega); have hbs := hB.out.size; have lpp := row_lt P.out; replace P := Go.Lib.hid (heap_past w1 (.cells (vrow 66 (blankPic p.wide p.high).at) 61) _ _ (row_lt P.out) P.out); replace R := Go.Lib.hid (heap_past w1 (.cells (vrow 66 (blankPic p.wide p.high).at) 61) _ _ (row_lt R.out) R.out); replace hB := Go.Lib.hid (hB.out.alloc hB.out.size (.cells (vrow 66 (blankPic p.wide p.high).at) 61)))
      | (go_at_call 88; (refine (HL.out _ _ O.out R.out hDO).mono ?_); rintro o w2 ⟨hg, rfl⟩; replace hB := Go.Lib.hid (belowG hB.out hg (by omega)); clear hg P R O))
    go_ret2
    exact ⟨rfl, hB.out⟩
set_option maxHeartbeats 2000000 in
theorem specCk_ok (p : Pic) (D n : Nat) (px py pn : Nat → Int) (a c : Nat) (v : Bool) (h1 : okP p = true) (hn : n ≤ 100) (hcan : canA p px py pn n = true) (ea : p.wide = a) (ec : p.high = c) (ha : 1 ≤ a ∧ a ≤ 8) (hc : 1 ≤ c ∧ c ≤ 8) (hq : ∀ w, (Op.equalIn 10000 61 (.agg (drpP (blankPic p.wide p.high) a c px py pn n).row) (.agg p.row)).run Tryd.prog w = .ok v w) (w : World) (hf : p.fit) (hpx : ∀ i, i < n → -128 ≤ px i ∧ px i ≤ 127) (hpy : ∀ i, i < n → -128 ≤ py i ∧ py i ≤ 127) (hpn : ∀ i, i < n → 0 ≤ pn i ∧ pn i ≤ 255) (hd : w.heap[D]? = some (.cells (vrow (n * 3) (drf px py pn)) 66)) : Calls Tryd.prog 37 #[.agg p.row, .slice (some ⟨D, 0, none⟩) n n] w fun o w' => o = .returned (.tuple #[.bool v, .int .i64 0]) ∧ Below w.heap.size w w' := by
  have hDl := row_lt hd
  have zz := zero_pic
  have P : Hid ((w.alloc (.cells (vrow 66 p.at) 61)).heap[w.heap.size]? = some (.cells (vrow 66 p.at) 61)) := (heap_at _ _ _ (by simp))
  have hB : Hid (Below w.heap.size w (w.alloc (.cells (vrow 66 p.at) 61))) := Go.Lib.hid ((Below.refl w.heap.size w).alloc (by simp <;> omega) _)
  have R : Hid ((w.alloc (.cells (vrow 66 p.at) 61)).heap[D]? = some (.cells (vrow (n * 3) (drf px py pn)) 66)) := heap_past _ _ _ _ hDl hd
  clear hd
  have HO := Go.Lib.hid fun w' h => okP_from w' p w.heap.size w' h hf (Below.refl _ _)
  rw [h1] at HO
  have HL : Hid (∀ b W, W.heap[b]? = some (.cells (vrow 66 (blankPic p.wide p.high).at) 61) → W.heap[D]? = some (.cells (vrow (n * 3) (drf px py pn)) 66) → D ≠ b → Calls Tryd.prog 88 #[.pointer (some ⟨b, 0, none⟩), .slice (some ⟨D, 0, none⟩) n n] W fun o w' => W.grownBy w' (some b) ∧ o = .returned (.int .i64 0) ∧ w'.heap[b]? = some (.cells (drpP (blankPic p.wide p.high) a c px py pn n).row 61)) := Go.Lib.hid fun b W h2 h3 hne => by
    have hbf : (blankPic p.wide p.high).fit := by rw [ea, ec]; exact blank_fit a c ha hc
    have hbo : okP (blankPic p.wide p.high) = true := by rw [ea, ec]; exact okP_blank a c ha hc
    refine (lall_any (blankPic p.wide p.high) _ D n a c px py pn W h2 h3 hne hbf hbo ea ec ha.2 hc.2 hn hpx hpy hpn).mono ?_
    rintro o w' ⟨e1, ⟨_, e2, e3⟩ | ⟨e2, _⟩⟩
    · exact ⟨e1, e2, e3⟩
    · rw [canA_same (p := p) (q := blankPic p.wide p.high) rfl rfl, hcan] at e2; cases e2
  generalize drpP (blankPic p.wide p.high) a c px py pn n = G at *
  clear ea ec ha hc hcan hn
  go_enter Tryd.func37, Tryd.ntmps37
  go_wp2_with (first
    | go_skip
    | ((with_reducible refine wlAt 11 rfl ?_); refine wpList_ld1 22 _ rfl (by first | exact want_n rfl | exact want_g _ _ _ rfl rfl rfl) (w.heap.size) 0 rfl 66 p.at _ rw_i8 P.out (by omega) ?_; rw [Pic.at_0])
    | ((with_reducible refine wlAt 13 rfl ?_); refine wpList_ld1 22 _ rfl (by first | exact want_n rfl | exact want_g _ _ _ rfl rfl rfl) (w.heap.size) 1 rfl 66 p.at _ rw_i8 P.out (by omega) ?_; rw [Pic.at_1])
    | (go_at_call 83; (refine (HO.out _ P.out).mono ?_); rintro o w1 ⟨rfl, hb⟩; replace P := Go.Lib.hid (row_next hb P.out); replace R := Go.Lib.hid (row_next hb R.out); replace hB := Go.Lib.hid (below_next hB.out hb); clear hb)
    | ((with_reducible refine wlAt 14 rfl ?_); refine wpList_built rfl 61 [(0, .tmp 11), (1, .tmp 13)] rfl [(0, .int .i8 p.wide), (1, .int .i8 p.high)] (by rfl) _ (built_blank p.wide p.high) ?_)
    | ((with_reducible refine wlOp (.store 61 (.tmp 6) (.tmp 14)) rfl ?_); refine wpList_storeall rfl 61 (.tmp 6) (.tmp 14) rfl _ rfl 66 Pic.zero.at (blankPic p.wide p.high).at rfl 61 size_pic (heap_at _ _ _ rfl) (fun i _ => Pic.one _ i) ?_; rw [setRow_at _ _ _ _ _ rfl]; have O := Go.Lib.hid (heap_at w1 (.cells (vrow 66 (blankPic p.wide p.high).at) 61) _ rfl); have hDO : D ≠ w1.heap.size := (by have := row_lt R.out; omega); have hbs := hB.out.size; have lpp := row_lt P.out; replace P := Go.Lib.hid (heap_past w1 (.cells (vrow 66 (blankPic p.wide p.high).at) 61) _ _ (row_lt P.out) P.out); replace R := Go.Lib.hid (heap_past w1 (.cells (vrow 66 (blankPic p.wide p.high).at) 61) _ _ (row_lt R.out) R.out); replace hB := Go.Lib.hid (hB.out.alloc hB.out.size (.cells (vrow 66 (blankPic p.wide p.high).at) 61)))
    | (go_at_call 88; (refine (HL.out _ _ O.out R.out hDO).mono ?_); rintro o w2 ⟨hg, rfl, hO⟩; replace hB := Go.Lib.hid (belowG hB.out hg (by omega)); replace P := Go.Lib.hid (grown_row hg P.out (by intro hh; have := Option.some.inj hh; omega)); clear hg R; replace O := Go.Lib.hid hO; clear hO; obtain ⟨bo, hbo⟩ : ∃ bo, w1.heap.size = bo := ⟨_, rfl⟩; rw [hbo] at O ⊢; replace hbo := Go.Lib.hid hbo)
    | ((with_reducible refine wlAt 20 rfl ?_); refine wpList_ldm 61 (.tmp 6) rfl (by first | exact want_n rfl | exact want_g _ _ _ rfl rfl rfl) bo _ rfl 66 66 G.at _ rw_pic size_pic O.out (by omega) ?_; rw [pic_row])
    | ((with_reducible refine wlAt 21 rfl ?_); refine wpList_ldm 61 (.tmp 2) rfl (by first | exact want_n rfl | exact want_g _ _ _ rfl rfl rfl) (w.heap.size) _ rfl 66 66 p.at _ rw_pic size_pic P.out (by omega) ?_; rw [pic_row]))
  go_ret2
  exact ⟨rfl, hB.out⟩
set_option maxHeartbeats 2000000 in
theorem made_any (p : Pic) (D n a c : Nat) (px py pn : Nat → Int) (v : Bool) (w : World) (hd : w.heap[D]? = some (.cells (vrow (n * 3) (drf px py pn)) 66)) (ea : p.wide = a) (ec : p.high = c) (ha : a ≤ 8) (hc : c ≤ 8) (hn : n ≤ 100) (hpn : ∀ i, i < n → 0 ≤ pn i ∧ pn i ≤ 255) (hcan : canA p px py pn n = true) (hq : ∀ w, (Op.equalIn 10000 61 (.agg (drpP (blankPic p.wide p.high) a c px py pn n).row) (.agg p.row)).run Tryd.prog w = .ok v w) :
    Calls Tryd.prog 92 #[.agg p.row, .slice (some ⟨D, 0, none⟩) n n] w fun e w' => e = .returned (.bool v) ∧ Below w.heap.size w w' := by
  have hDl := row_lt hd
  have HBP := Go.Lib.hid fun w => blank_any p w
  have HD := Go.Lib.hid fun W hd => dropped_any (blankPic p.wide p.high) D n a c px py pn W hd ea ec ha hc hn hpn (by rw [canA_same (p := p) (q := blankPic p.wide p.high) rfl rfl]; exact hcan)
  generalize drpP (blankPic p.wide p.high) a c px py pn n = G at *
  generalize blankPic p.wide p.high = BP at *
  have P : Hid ((w.alloc (.cells (vrow 66 p.at) 61)).heap[w.heap.size]? = some (.cells (vrow 66 p.at) 61)) := (heap_at _ _ _ (by simp))
  have hB : Hid (Below w.heap.size w (w.alloc (.cells (vrow 66 p.at) 61))) := Go.Lib.hid ((Below.refl w.heap.size w).alloc (by simp <;> omega) _)
  have R : Hid ((w.alloc (.cells (vrow 66 p.at) 61)).heap[D]? = some (.cells (vrow (n * 3) (drf px py pn)) 66)) := heap_past _ _ _ _ hDl hd
  clear hd ea ec hcan hpn
  go_enter Tryd.func92, Tryd.ntmps92
  go_wp2
  refine region_at (by kernel_rfl) (by kernel_rfl) ?_
  intro W hW
  rw [hW] at hB P R
  clear hW
  have P' := Go.Lib.hid (cls_row' P.out); have R' := Go.Lib.hid R.out
  (refine wpQuiet_loadmid 61 (.tmp 2) rfl (by first | exact want_n rfl | exact want_g _ _ _ rfl rfl rfl) w.heap.size _ rfl 66 66 p.at _ rw_pic size_pic P'.out (by omega) ?_; rw [pic_row]; simp only [Act.put, List.setIfInBounds_toArray, List.set_cons_succ, List.set_cons_zero])
  go_big_quiet_step ((go_at_call 141; exact cls_call _ (fun w hw => HBP.out w)))
  go_big_quiet_step (fail)
  go_big_quiet_step ((go_at_call 90; exact cls_call _ (fun w hw => HD.out w (row_next hw R'.out))))
  (refine wpQuiet_loadmid 61 (.tmp 2) rfl (by first | exact want_n rfl | exact want_g _ _ _ rfl rfl rfl) w.heap.size _ rfl 66 66 p.at _ rw_pic size_pic P'.out (by omega) ?_; rw [pic_row]; simp only [Act.put, List.setIfInBounds_toArray, List.set_cons_succ, List.set_cons_zero])
  repeat (go_big_quiet_step (fail))
  refine wpQuiet_nil ?_
  intro W2 hb
  replace hB := Go.Lib.hid (below_next hB.out hb)
  clear hb P' R'
  go_wp2
  go_ret
  exact ⟨rfl, hB.out⟩
set_option maxHeartbeats 2000000 in
theorem implCk_err (p : Pic) (D n : Nat) (px py pn : Nat → Int) (k : Int) (hf : p.fit) (h : badD p px py pn n k) (e : ErrE) (w : World) (hE : Errs e w) (hd : w.heap[D]? = some (.cells (vrow (n * 3) (drf px py pn)) 66)) : Calls Tryd.prog 38 #[.agg p.row, .slice (some ⟨D, 0, none⟩) n n] w fun o w' => o = .returned (.tuple #[.bool false, .int .i64 k]) ∧ Below w.heap.size w w' := by
  have hDl := row_lt hd
  have P : Hid ((w.alloc (.cells (vrow 66 p.at) 61)).heap[w.heap.size]? = some (.cells (vrow 66 p.at) 61)) := (heap_at _ _ _ (by simp))
  have hB : Hid (Below w.heap.size w (w.alloc (.cells (vrow 66 p.at) 61))) := Go.Lib.hid ((Below.refl w.heap.size w).alloc (by simp <;> omega) _)
  have E : Hid (Errs e (w.alloc (.cells (vrow 66 p.at) 61))) := Go.Lib.hid (hE.alloc _)
  have R : Hid ((w.alloc (.cells (vrow 66 p.at) 61)).heap[D]? = some (.cells (vrow (n * 3) (drf px py pn)) 66)) := heap_past _ _ _ _ hDl hd
  clear hd
  have hk : k = 1 ∨ k = 2 ∨ k = 3 := by rcases h with ⟨_, rfl⟩ | ⟨_, _, rfl⟩ | ⟨_, _, _, rfl⟩ <;> simp
  rcases hk with rfl | rfl | rfl
  · have HC : Hid (∀ W, Errs e W → W.heap[D]? = some (.cells (vrow (n * 3) (drf px py pn)) 66) → Calls Tryd.prog 89 #[.agg p.row, .slice (some ⟨D, 0, none⟩) n n] W fun o w' => o = .returned (errP e 1) ∧ Below W.heap.size W w') := Go.Lib.hid fun W h1 h2 => (ckAll_err p D n px py pn 1 hf h e W h1 h2).mono fun o w' ⟨⟨g, _⟩, g2⟩ => ⟨g, g2⟩
    have HK := Go.Lib.hid fun W h1 => codeOf_1 e W h1
    clear h
    go_enter Tryd.func38, Tryd.ntmps38
    go_wp2_with (first
      | go_skip
      | ((with_reducible refine wlAt 7 rfl ?_); refine wpList_ldm 61 (.tmp 2) rfl (by first | exact want_n rfl | exact want_g _ _ _ rfl rfl rfl) (w.heap.size) _ rfl 66 66 p.at _ rw_pic size_pic P.out (by omega) ?_; rw [pic_row])
      | (go_at_call 89; (refine (HC.out _ E.out R.out).mono ?_); rintro o w1 ⟨rfl, hb⟩; replace P := Go.Lib.hid (row_next hb P.out); replace R := Go.Lib.hid (row_next hb R.out); replace hB := Go.Lib.hid (below_next hB.out hb); replace E := Go.Lib.hid (E.out.next hb); clear hb)
      | (go_at_call 62; (refine (HK.out _ E.out).mono ?_); rintro o w1 ⟨rfl, hb⟩; replace P := Go.Lib.hid (row_next hb P.out); replace R := Go.Lib.hid (row_next hb R.out); replace hB := Go.Lib.hid (below_next hB.out hb); replace E := Go.Lib.hid (E.out.next hb); clear hb))
    go_ret2
    exact ⟨rfl, hB.out⟩
  · have HC : Hid (∀ W, Errs e W → W.heap[D]? = some (.cells (vrow (n * 3) (drf px py pn)) 66) → Calls Tryd.prog 89 #[.agg p.row, .slice (some ⟨D, 0, none⟩) n n] W fun o w' => o = .returned (errP e 2) ∧ Below W.heap.size W w') := Go.Lib.hid fun W h1 h2 => (ckAll_err p D n px py pn 2 hf h e W h1 h2).mono fun o w' ⟨⟨g, _⟩, g2⟩ => ⟨g, g2⟩
    have HK := Go.Lib.hid fun W h1 => codeOf_2 e W h1
    clear h
    go_enter Tryd.func38, Tryd.ntmps38
    go_wp2_with (first
      | go_skip
      | ((with_reducible refine wlAt 7 rfl ?_); refine wpList_ldm 61 (.tmp 2) rfl (by first | exact want_n rfl | exact want_g _ _ _ rfl rfl rfl) (w.heap.size) _ rfl 66 66 p.at _ rw_pic size_pic P.out (by omega) ?_; rw [pic_row])
      | (go_at_call 89; (refine (HC.out _ E.out R.out).mono ?_); rintro o w1 ⟨rfl, hb⟩; replace P := Go.Lib.hid (row_next hb P.out); replace R := Go.Lib.hid (row_next hb R.out); replace hB := Go.Lib.hid (below_next hB.out hb); replace E := Go.Lib.hid (E.out.next hb); clear hb)
      | (go_at_call 62; (refine (HK.out _ E.out).mono ?_); rintro o w1 ⟨rfl, hb⟩; replace P := Go.Lib.hid (row_next hb P.out); replace R := Go.Lib.hid (row_next hb R.out); replace hB := Go.Lib.hid (below_next hB.out hb); replace E := Go.Lib.hid (E.out.next hb); clear hb))
    go_ret2
    exact ⟨rfl, hB.out⟩
  · have HC : Hid (∀ W, Errs e W → W.heap[D]? = some (.cells (vrow (n * 3) (drf px py pn)) 66) → Calls Tryd.prog 89 #[.agg p.row, .slice (some ⟨D, 0, none⟩) n n] W fun o w' => o = .returned (errP e 3) ∧ Below W.heap.size W w') := Go.Lib.hid fun W h1 h2 => (ckAll_err p D n px py pn 3 hf h e W h1 h2).mono fun o w' ⟨⟨g, _⟩, g2⟩ => ⟨g, g2⟩
    have HK := Go.Lib.hid fun W h1 => codeOf_3 e W h1
    clear h
    go_enter Tryd.func38, Tryd.ntmps38
    go_wp2_with (first
      | go_skip
      | ((with_reducible refine wlAt 7 rfl ?_); refine wpList_ldm 61 (.tmp 2) rfl (by first | exact want_n rfl | exact want_g _ _ _ rfl rfl rfl) (w.heap.size) _ rfl 66 66 p.at _ rw_pic size_pic P.out (by omega) ?_; rw [pic_row])
      | (go_at_call 89; (refine (HC.out _ E.out R.out).mono ?_); rintro o w1 ⟨rfl, hb⟩; replace P := Go.Lib.hid (row_next hb P.out); replace R := Go.Lib.hid (row_next hb R.out); replace hB := Go.Lib.hid (below_next hB.out hb); replace E := Go.Lib.hid (E.out.next hb); clear hb)
      | (go_at_call 62; (refine (HK.out _ E.out).mono ?_); rintro o w1 ⟨rfl, hb⟩; replace P := Go.Lib.hid (row_next hb P.out); replace R := Go.Lib.hid (row_next hb R.out); replace hB := Go.Lib.hid (below_next hB.out hb); replace E := Go.Lib.hid (E.out.next hb); clear hb))
    go_ret2
    exact ⟨rfl, hB.out⟩
set_option maxHeartbeats 2000000 in
theorem implCk_ok (p : Pic) (D n a c : Nat) (px py pn : Nat → Int) (v : Bool) (hf : p.fit) (hpn : ∀ i, i < n → 0 ≤ pn i ∧ pn i ≤ 255) (h1 : okP p = true) (hn : n ≤ 100) (hcan : canA p px py pn n = true) (ea : p.wide = a) (ec : p.high = c) (ha : 1 ≤ a ∧ a ≤ 8) (hc : 1 ≤ c ∧ c ≤ 8) (hq : ∀ w, (Op.equalIn 10000 61 (.agg (drpP (blankPic p.wide p.high) a c px py pn n).row) (.agg p.row)).run Tryd.prog w = .ok v w) (e : ErrE) (w : World) (hE : Errs e w) (hd : w.heap[D]? = some (.cells (vrow (n * 3) (drf px py pn)) 66)) : Calls Tryd.prog 38 #[.agg p.row, .slice (some ⟨D, 0, none⟩) n n] w fun o w' => o = .returned (.tuple #[.bool v, .int .i64 0]) ∧ Below w.heap.size w w' := by
  have hDl := row_lt hd
  have P : Hid ((w.alloc (.cells (vrow 66 p.at) 61)).heap[w.heap.size]? = some (.cells (vrow 66 p.at) 61)) := (heap_at _ _ _ (by simp))
  have hB : Hid (Below w.heap.size w (w.alloc (.cells (vrow 66 p.at) 61))) := Go.Lib.hid ((Below.refl w.heap.size w).alloc (by simp <;> omega) _)
  have E : Hid (Errs e (w.alloc (.cells (vrow 66 p.at) 61))) := Go.Lib.hid (hE.alloc _)
  have R : Hid ((w.alloc (.cells (vrow 66 p.at) 61)).heap[D]? = some (.cells (vrow (n * 3) (drf px py pn)) 66)) := heap_past _ _ _ _ hDl hd
  clear hd
  have HC := Go.Lib.hid fun W hE hd => ckAll_ok p D n px py pn hf h1 hn hcan e W hE hd
  have HM := Go.Lib.hid fun W hd => made_any p D n a c px py pn v W hd ea ec ha.2 hc.2 hn hpn hcan hq
  clear hq
  go_enter Tryd.func38, Tryd.ntmps38
  go_wp2_with (first
    | go_skip
    | ((with_reducible refine wlAt 7 rfl ?_); refine wpList_ldm 61 (.tmp 2) rfl (by first | exact want_n rfl | exact want_g _ _ _ rfl rfl rfl) (w.heap.size) _ rfl 66 66 p.at _ rw_pic size_pic P.out (by omega) ?_; rw [pic_row])
    | ((with_reducible refine wlAt 14 rfl ?_); refine wpList_ldm 61 (.tmp 2) rfl (by first | exact want_n rfl | exact want_g _ _ _ rfl rfl rfl) (w.heap.size) _ rfl 66 66 p.at _ rw_pic size_pic P.out (by omega) ?_; rw [pic_row])
    | (go_at_call 89; (refine (HC.out _ E.out R.out).mono ?_); rintro o w1 ⟨rfl, hb⟩; replace P := Go.Lib.hid (row_next hb P.out); replace R := Go.Lib.hid (row_next hb R.out); replace hB := Go.Lib.hid (below_next hB.out hb); replace E := Go.Lib.hid (E.out.next hb); clear hb)
    | (go_at_call 92; (refine (HM.out _ R.out).mono ?_); rintro o w1 ⟨rfl, hb⟩; replace P := Go.Lib.hid (row_next hb P.out); replace R := Go.Lib.hid (row_next hb R.out); replace hB := Go.Lib.hid (below_next hB.out hb); replace E := Go.Lib.hid (E.out.next hb); clear hb))
  go_ret2
  exact ⟨rfl, hB.out⟩
end Go.Proofs.YtfgcpiipndhllaaDoor
